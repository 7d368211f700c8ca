package tests

import (
	"math"
	"slices"
	"testing"

	"loop.example/g00215/impl"
)

// bordersOf is Borders by hand: of each beginning all shorter lists are tried, the longest one first.
func bordersOf(pattern []int64) []int64 {
	made := []int64{}
	if len(pattern) > 100 {
		return made
	}
	for end := 1; end <= len(pattern); end++ {
		size := end - 1
		for !slices.Equal(pattern[:size], pattern[end-size:end]) {
			size--
		}
		made = append(made, int64(size))
	}
	return made
}

// placesOf is Places by hand: each number of the text is tried.
func placesOf(text []int64, pattern []int64) []int64 {
	made := []int64{}
	if len(pattern) < 1 || len(pattern) > 100 || len(text) > 5000 {
		return made
	}
	for at := 0; at+len(pattern) <= len(text); at++ {
		if slices.Equal(text[at:at+len(pattern)], pattern) {
			made = append(made, int64(at))
		}
	}
	return made
}

// periodOf is Period by hand: each number above 0 is tried, the least one first.
func periodOf(pattern []int64) int64 {
	if len(pattern) < 1 || len(pattern) > 100 {
		return -1
	}
	period := 1
	for !slices.Equal(pattern[period:], pattern[:len(pattern)-period]) {
		period++
	}
	return int64(period)
}

// checkPattern holds all that is told of a pattern alone against the chapter done by hand.
func checkPattern(t *testing.T, pattern []int64) {
	t.Helper()
	borders := impl.Borders(pattern)
	if want := bordersOf(pattern); !slices.Equal(borders, want) {
		t.Fatalf("borders of %v are %v, not %v", pattern, borders, want)
	}
	period := impl.Period(pattern)
	if want := periodOf(pattern); period != want {
		t.Fatalf("the period of %v is %d, not %d", pattern, period, want)
	}
	if size := len(borders); size > 0 && period != int64(size)-borders[size-1] {
		t.Fatalf("the period of %v is %d, the last border %d", pattern, period, borders[size-1])
	}
}

// checkSearch holds where a pattern stands in a text against the chapter done by hand.
func checkSearch(t *testing.T, text []int64, pattern []int64) {
	t.Helper()
	if got, want := impl.Places(text, pattern), placesOf(text, pattern); !slices.Equal(got, want) {
		t.Fatalf("%v stands in %v at %v, not at %v", pattern, text, got, want)
	}
}

// fibonacciNumbers are that many of 1, 12, 121, 12112 .., each of the two ahead of it: borders are near everywhere, and fall a long way.
func fibonacciNumbers(size int) []int64 {
	ahead, list := []int64{1}, []int64{1, 2}
	for len(list) < size {
		ahead, list = list, slices.Concat(list, ahead)
	}
	return list[:size]
}

// comingAgain is that many numbers of a list again and again.
func comingAgain(size int, list ...int64) []int64 {
	return slices.Repeat(list, size/len(list)+1)[:size]
}

// withNumberAt is a list with one other number.
func withNumberAt(list []int64, at int, x int64) []int64 {
	made := slices.Clone(list)
	made[at] = x
	return made
}

// longPatterns are as long as a pattern may be at most, or one less.
func longPatterns() [][]int64 {
	var all [][]int64
	for _, size := range []int{99, 100} {
		alike := comingAgain(size, 1)
		all = append(all, alike, rising(size), fibonacciNumbers(size))
		for _, at := range []int{0, 1, size / 2, size - 2, size - 1} {
			all = append(all, withNumberAt(alike, at, 2))
		}
		for _, list := range [][]int64{{1, 2}, {1, 1, 2}, {1, 2, 1, 3}, rising(49), rising(50), rising(51), rising(98)} {
			whole := comingAgain(size, list...)
			all = append(all, whole, withNumberAt(whole, size-1, 9), withNumberAt(whole, 0, 9), withNumberAt(whole, size/2, 9))
		}
	}
	return all
}

func TestBordersOfSome(t *testing.T) {
	for _, some := range []struct {
		pattern []int64
		want    []int64
	}{
		{nil, nil},
		{[]int64{}, nil},
		{[]int64{0}, []int64{0}},
		{[]int64{7}, []int64{0}},
		{[]int64{7, 7}, []int64{0, 1}},
		{[]int64{7, 8}, []int64{0, 0}},
		{[]int64{7, 7, 7, 7}, []int64{0, 1, 2, 3}},
		{[]int64{1, 2, 3, 4}, []int64{0, 0, 0, 0}},
		{[]int64{1, 2, 1, 2, 1, 3}, []int64{0, 0, 1, 2, 3, 0}},
		{[]int64{1, 2, 1, 2, 1, 1}, []int64{0, 0, 1, 2, 3, 1}},
		{[]int64{1, 2, 1, 2, 1, 2}, []int64{0, 0, 1, 2, 3, 4}},
		{[]int64{1, 2, 3, 1, 2, 4}, []int64{0, 0, 0, 1, 2, 0}},
		{[]int64{1, 1, 1, 2}, []int64{0, 1, 2, 0}},
		{[]int64{2, 1, 1, 1}, []int64{0, 0, 0, 0}},
		{[]int64{1, 1, 2, 1, 1, 1}, []int64{0, 1, 0, 1, 2, 2}},
		{[]int64{1, 1, 2, 1, 1, 2}, []int64{0, 1, 0, 1, 2, 3}},
		{[]int64{1, 2, 1, 1, 2, 1, 2}, []int64{0, 0, 1, 1, 2, 3, 2}},
		{[]int64{1, 2, 1, 3, 1, 2, 1, 2}, []int64{0, 0, 1, 0, 1, 2, 3, 2}},
		{[]int64{1, 1, 2, 1, 1, 3, 1, 1, 2, 1, 1, 1}, []int64{0, 1, 0, 1, 2, 0, 1, 2, 3, 4, 5, 2}},
		{[]int64{0, 0, 1, 0, 0}, []int64{0, 1, 0, 1, 2}},
		{[]int64{math.MinInt64, math.MaxInt64, math.MinInt64}, []int64{0, 0, 1}},
		{[]int64{math.MaxInt64, math.MaxInt64, math.MinInt64, math.MaxInt64, math.MaxInt64}, []int64{0, 1, 0, 1, 2}},
		{[]int64{math.MinInt64, 0, -1}, []int64{0, 0, 0}},
		{[]int64{0, 256, 1 << 32, -1 << 32, math.MinInt64}, []int64{0, 0, 0, 0, 0}},
		{[]int64{-1, 255, 1<<32 - 1, math.MaxInt64, -1}, []int64{0, 0, 0, 0, 1}},
		{[]int64{1, -1, 1}, []int64{0, 0, 1}},
	} {
		if got := impl.Borders(some.pattern); !slices.Equal(got, some.want) {
			t.Errorf("borders of %v are %v, not %v", some.pattern, got, some.want)
		}
		checkPattern(t, some.pattern)
	}
}

func TestPeriodOfSome(t *testing.T) {
	for _, some := range []struct {
		pattern []int64
		want    int64
	}{
		{nil, -1},
		{[]int64{}, -1},
		{[]int64{0}, 1},
		{[]int64{7}, 1},
		{[]int64{7, 7}, 1},
		{[]int64{7, 8}, 2},
		{[]int64{7, 7, 7, 7}, 1},
		{[]int64{1, 2, 3, 4}, 4},
		{[]int64{1, 2, 1}, 2},
		{[]int64{1, 2, 1, 2}, 2},
		{[]int64{1, 2, 1, 2, 1}, 2},
		{[]int64{1, 2, 3, 1}, 3},
		{[]int64{1, 2, 3, 1, 2}, 3},
		{[]int64{1, 2, 3, 1, 2, 3, 1}, 3},
		{[]int64{1, 2, 3, 1, 3}, 5},
		{[]int64{1, 2, 1, 2, 1, 3}, 6},
		{[]int64{1, 2, 1, 2, 1, 1}, 5},
		{[]int64{1, 1, 1, 2}, 4},
		{[]int64{2, 1, 1, 1}, 4},
		{[]int64{1, 1, 2, 1, 1}, 3},
		{[]int64{1, 2, 2, 1, 2}, 3},
		{[]int64{1, 2, 3, 4, 5, 1}, 5},
		{[]int64{1, 1, 2, 1, 1, 1}, 4},
		{[]int64{0, 0, 1}, 3},
		{[]int64{math.MinInt64, math.MaxInt64}, 2},
		{[]int64{math.MinInt64, math.MinInt64}, 1},
		{[]int64{math.MaxInt64, 0, math.MaxInt64}, 2},
		{[]int64{0, 1 << 32, 0, 1 << 32, 1}, 5},
		{[]int64{0, 256}, 2},
	} {
		if got := impl.Period(some.pattern); got != some.want {
			t.Errorf("the period of %v is %d, not %d", some.pattern, got, some.want)
		}
		checkPattern(t, some.pattern)
	}
}

func TestPlacesOfSome(t *testing.T) {
	for _, some := range []struct {
		text    []int64
		pattern []int64
		want    []int64
	}{
		{nil, nil, nil},
		{[]int64{1, 2}, nil, nil},
		{[]int64{1, 2}, []int64{}, nil},
		{nil, []int64{1}, nil},
		{[]int64{}, []int64{0}, nil},
		{nil, []int64{1, 2}, nil},
		{[]int64{1}, []int64{1}, []int64{0}},
		{[]int64{0}, []int64{0}, []int64{0}},
		{[]int64{1}, []int64{2}, nil},
		{[]int64{1, 2, 1, 1}, []int64{1}, []int64{0, 2, 3}},
		{[]int64{1, 1}, []int64{1, 1, 1}, nil},
		{[]int64{1, 2}, []int64{1, 2, 1}, nil},
		{[]int64{1, 2, 3}, []int64{1, 2, 3}, []int64{0}},
		{[]int64{1, 2, 3}, []int64{1, 2, 4}, nil},
		{[]int64{1, 2, 3}, []int64{4, 2, 3}, nil},
		{[]int64{1, 2, 3}, []int64{1, 4, 3}, nil},
		{[]int64{1, 2, 3}, []int64{3, 2, 1}, nil},
		{[]int64{1, 1, 1, 2, 1, 1, 1}, []int64{1, 1}, []int64{0, 1, 4, 5}},
		{[]int64{1, 1, 1, 1}, []int64{1, 1}, []int64{0, 1, 2}},
		{[]int64{1, 2, 1, 2, 1}, []int64{1, 2, 1}, []int64{0, 2}},
		{[]int64{1, 2, 1, 2, 1, 2}, []int64{1, 2, 1}, []int64{0, 2}},
		{[]int64{1, 2, 3, 9, 9}, []int64{1, 2, 3}, []int64{0}},
		{[]int64{9, 9, 1, 2, 3}, []int64{1, 2, 3}, []int64{2}},
		{[]int64{1, 2, 3, 9, 1, 2, 3}, []int64{1, 2, 3}, []int64{0, 4}},
		{[]int64{1, 2, 3, 1, 2, 3}, []int64{1, 2, 3}, []int64{0, 3}},
		{[]int64{9, 1, 2, 9}, []int64{1, 2}, []int64{1}},
		{[]int64{1, 2, 9, 1, 2}, []int64{1, 2, 3}, nil},
		{[]int64{1, 1, 2}, []int64{1, 2}, []int64{1}},
		{[]int64{1, 1, 1, 2}, []int64{1, 1, 2}, []int64{1}},
		{[]int64{1, 2, 1, 2, 1, 3}, []int64{1, 2, 1, 3}, []int64{2}},
		{[]int64{1, 2, 1, 1, 2, 1, 3}, []int64{1, 2, 1, 3}, []int64{3}},
		{[]int64{1, 1, 2, 1, 1, 1, 1, 2, 1, 1, 2}, []int64{1, 1, 2, 1, 1, 2}, []int64{5}},
		{[]int64{0, 0, 0}, []int64{0, 0}, []int64{0, 1}},
		{[]int64{math.MinInt64, math.MaxInt64, math.MinInt64, math.MaxInt64, math.MinInt64}, []int64{math.MinInt64, math.MaxInt64, math.MinInt64}, []int64{0, 2}},
		{[]int64{math.MinInt64, 0, math.MaxInt64, -1}, []int64{math.MaxInt64}, []int64{2}},
		{[]int64{0, 256, 1 << 32, math.MinInt64}, []int64{0}, []int64{0}},
		{[]int64{1, 257, 1<<32 + 1, -1}, []int64{1}, []int64{0}},
	} {
		if got := impl.Places(some.text, some.pattern); !slices.Equal(got, some.want) {
			t.Errorf("%v stands in %v at %v, not at %v", some.pattern, some.text, got, some.want)
		}
		checkSearch(t, some.text, some.pattern)
	}
}

func TestShortPatternsAsByHand(t *testing.T) {
	for _, lists := range [][][]int64{fewNumbers(13, 1, 2), fewNumbers(8, 1, 2, 3), fewNumbers(5, math.MinInt64, math.MaxInt64, 0, -1)} {
		for _, pattern := range lists {
			checkPattern(t, pattern)
		}
	}
}

func TestShortTextsAsByHand(t *testing.T) {
	for _, both := range []struct {
		texts    [][]int64
		patterns [][]int64
	}{
		{fewNumbers(10, 1, 2), fewNumbers(6, 1, 2)},
		{fewNumbers(5, 1, 2), fewNumbers(7, 1, 2)},
		{fewNumbers(7, 1, 2, 3), fewNumbers(4, 1, 2, 3)},
		{fewNumbers(4, 1, 2, 3), fewNumbers(5, 1, 2, 3)},
		{fewNumbers(4, math.MinInt64, math.MaxInt64, 0, -1), fewNumbers(3, math.MinInt64, math.MaxInt64, 0, -1)},
	} {
		for _, text := range both.texts {
			for _, pattern := range both.patterns {
				checkSearch(t, text, pattern)
			}
		}
	}
}

func TestLongPatternsAsByHand(t *testing.T) {
	next := numbersFrom(11)
	patterns := longPatterns()
	for _, kinds := range []int{1, 2, 3, 50} {
		for range 100 {
			patterns = append(patterns, mixedNumbers(next(101), kinds, next))
		}
	}
	for _, pattern := range patterns {
		for size := range len(pattern) + 1 {
			checkPattern(t, pattern[:size])
			checkPattern(t, pattern[size:])
		}
	}
}

// Patterns that come again and again, and break off at one number.
func TestPatternsThatBreakOff(t *testing.T) {
	for period := 1; period <= 12; period++ {
		list := rising(period)
		list[period/2] = list[0]
		for size := 1; size <= 100; size++ {
			whole := comingAgain(size, list...)
			checkPattern(t, whole)
			checkPattern(t, withNumberAt(whole, size-1, 1))
			checkPattern(t, withNumberAt(whole, size-1, list[0]))
			checkPattern(t, withNumberAt(whole, size/3, 1))
		}
	}
}

func TestPatternsOfTheMostNumbersAndOneMore(t *testing.T) {
	for _, pattern := range [][]int64{comingAgain(102, 1), rising(102), fibonacciNumbers(102), comingAgain(102, 1, 2, 3)} {
		text := slices.Concat(pattern, pattern, pattern, pattern)
		for _, size := range []int{99, 100, 101, 102} {
			told := size <= 100
			if got := impl.Borders(pattern[:size]); told && len(got) != size || !told && len(got) != 0 {
				t.Errorf("%d numbers have borders %v", size, got)
			}
			if got := impl.Period(pattern[:size]); told != (got > 0) || !told && got != -1 {
				t.Errorf("%d numbers have the period %d", size, got)
			}
			if got := impl.Places(text, pattern[:size]); told != (len(got) > 0) {
				t.Errorf("%d numbers stand at %v", size, got)
			}
			checkPattern(t, pattern[:size])
			checkSearch(t, text, pattern[:size])
		}
	}
	for _, size := range []int{101, 102, 200, 1000, 5000, 5001} {
		long := comingAgain(size, 1)
		if borders, period, places := impl.Borders(long), impl.Period(long), impl.Places(long, long); len(borders) != 0 || period != -1 || len(places) != 0 {
			t.Errorf("%d numbers: %v, %d, %v", size, borders, period, places)
		}
	}
}

func TestTextsOfTheMostNumbersAndOneMore(t *testing.T) {
	for _, size := range []int{4999, 5000, 5001, 5002, 10000} {
		alike := comingAgain(size, 1)
		for _, many := range []int{1, 2, 99, 100, 101} {
			want := size - many + 1
			if size > 5000 || many > 100 {
				want = 0
			}
			got := impl.Places(alike, alike[:many])
			if len(got) != want || want > 0 && (got[0] != 0 || got[want-1] != int64(want-1)) {
				t.Errorf("%d of %d numbers that are alike stand at %d places", many, size, len(got))
			}
			if got := impl.Places(alike, withNumberAt(alike[:many], many-1, 2)); len(got) != 0 {
				t.Errorf("%d numbers that are not alike stand at %v", many, got)
			}
			for _, pattern := range [][]int64{rising(many), withNumberAt(alike[:many], many/2, 2)} {
				text := slices.Clone(alike)
				copy(text, pattern)
				copy(text[size-many:], pattern)
				checkSearch(t, text, pattern)
			}
		}
		for _, pattern := range longPatterns() {
			checkSearch(t, comingAgain(size, pattern...), pattern)
		}
	}
}

func TestLongTextsAsByHand(t *testing.T) {
	next := numbersFrom(111)
	for _, pattern := range longPatterns() {
		for _, many := range []int{1, 2, 3, 20, len(pattern) - 1, len(pattern)} {
			for _, text := range [][]int64{
				comingAgain(700, pattern[:many]...), slices.Concat(pattern[1:], pattern, pattern[:many], pattern), slices.Concat(pattern, []int64{9}, pattern[:many], pattern),
				fibonacciNumbers(700), pattern, pattern[1:], pattern[:len(pattern)-1], withNumberAt(pattern, many-1, 77),
			} {
				checkSearch(t, text, pattern)
				checkSearch(t, text, pattern[:many])
				checkSearch(t, text, pattern[len(pattern)-many:])
			}
		}
	}
	for _, kinds := range []int{1, 2, 3} {
		for range 200 {
			text := mixedNumbers(next(1000), kinds, next)
			for range 10 {
				checkSearch(t, text, mixedNumbers(next(9), kinds, next))
				from := next(len(text) + 1)
				checkSearch(t, text, text[from:min(len(text), from+next(102))])
			}
		}
	}
}

// A pattern among other numbers stands at each place of a text once, at the first and the last ones too.
func TestAPatternStandsAtEachPlace(t *testing.T) {
	for _, pattern := range [][]int64{{1}, {1, 1}, {1, 2}, {1, 2, 1}, rising(10), comingAgain(100, 1), fibonacciNumbers(100)} {
		for at := range 121 - len(pattern) {
			text := slices.Concat(comingAgain(at, 9, 8), pattern, comingAgain(120-len(pattern)-at, 9, 8))
			if got := impl.Places(text, pattern); !slices.Equal(got, []int64{int64(at)}) {
				t.Errorf("%v stands at %v, not at %d", pattern, got, at)
			}
			broken := withNumberAt(text, at+len(pattern)-1, 7)
			if got := impl.Places(broken, pattern); len(got) != 0 {
				t.Errorf("%v without its last number stands at %v", pattern, got)
			}
		}
	}
}

// roomyTexts are lists within longer ones, with numbers ahead and behind; many are of one and the same memory.
func roomyTexts() (lists [][]int64, rooms [][]int64) {
	short := []int64{-1, 1, 2, 1, 2, 1, -2, -3}
	long := slices.Concat([]int64{-4}, comingAgain(110, 1, 2), []int64{-5, -6})
	most := slices.Concat([]int64{-7}, fibonacciNumbers(5001), []int64{-8, -9})
	return [][]int64{
		short[:0], short[1:1], short[1:2], short[1:4], short[1:6], short[2:4], short[3:6], long[1:4], long[1:101], long[1:102], long[2:102], long[2:111], most[1:5001], most[1:5002], most[1:101],
	}, [][]int64{short, long, most}
}

// allSearchAnswers are the lists that each function answers, the Period in a list of its own.
func allSearchAnswers(lists [][]int64) [][]int64 {
	var all [][]int64
	for _, pattern := range lists {
		all = append(all, impl.Borders(pattern), []int64{impl.Period(pattern)})
		for _, text := range lists {
			all = append(all, impl.Places(text, pattern))
		}
	}
	return all
}

func TestSearchesArgumentsStayAndAnswersAreNew(t *testing.T) {
	lists, rooms := roomyTexts()
	before := cloned(rooms)
	stay := func() bool { return slices.EqualFunc(rooms, before, slices.Equal[[]int64]) }
	ahead, answers := cloned(allSearchAnswers(lists)), allSearchAnswers(lists)
	if !stay() {
		t.Fatal("what was handed in was written into")
	}
	for i, answer := range answers {
		if !slices.Equal(answer, ahead[i]) {
			t.Fatalf("answer %d shares with another: %v, not %v", i, answer, ahead[i])
		}
		for at := range answer[:cap(answer)] {
			answer[:cap(answer)][at] = -9
		}
		if !stay() {
			t.Fatalf("answer %d shares with what was handed in", i)
		}
	}
	for i, answer := range allSearchAnswers(lists) {
		if !slices.Equal(answer, ahead[i]) {
			t.Fatalf("answer %d hangs on an earlier one: %v, not %v", i, answer, ahead[i])
		}
	}
}

// A function of this layer that panics, or doesn't end, on anything here fails by that.
func TestSearchesAnswerAtEveryArgument(t *testing.T) {
	lists := [][]int64{
		nil, {}, {0}, {-1}, {math.MinInt64}, {math.MaxInt64}, farNumbers, farNumbers[:3], slices.Concat(farNumbers, farNumbers, farNumbers), noRunes, slices.Concat(noRunes, noRunes),
		rising(99), rising(100), rising(101), make([]int64, 99), make([]int64, 100), make([]int64, 101), rising(5000), rising(5001), make([]int64, 5000), make([]int64, 5001), make([]int64, 100000),
	}
	for _, pattern := range lists {
		checkPattern(t, pattern)
		for _, text := range lists {
			checkSearch(t, text, pattern)
		}
	}
}

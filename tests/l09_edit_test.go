package tests

import (
	"math"
	"slices"
	"testing"

	"loop.example/g00215/impl"
)

func take(at int64) impl.Edit { return impl.Edit{Kind: 1, At: at} }

func putIn(at int64, value int64) impl.Edit { return impl.Edit{Kind: 2, At: at, Value: value} }

func turnTo(at int64, value int64) impl.Edit { return impl.Edit{Kind: 3, At: at, Value: value} }

// fewNumbers are all lists of at most that many of the numbers.
func fewNumbers(most int, numbers ...int64) [][]int64 {
	lists := [][]int64{{}}
	for at := 0; at < len(lists) && len(lists[at]) < most; at++ {
		for _, x := range numbers {
			lists = append(lists, slices.Concat(lists[at], []int64{x}))
		}
	}
	return lists
}

// mixedNumbers are that many, each one of so many kinds.
func mixedNumbers(size int, kinds int, next func(int) int) []int64 {
	list := []int64{}
	for range size {
		list = append(list, int64(next(kinds)))
	}
	return list
}

// oneStepFrom are all lists to which one number taken out, put in or made another leads.
func oneStepFrom(list []int64, numbers []int64) [][]int64 {
	var all [][]int64
	for at := range len(list) + 1 {
		for _, x := range numbers {
			all = append(all, slices.Concat(list[:at], []int64{x}, list[at:]))
			if at < len(list) {
				all = append(all, slices.Concat(list[:at], []int64{x}, list[at+1:]))
			}
		}
		if at < len(list) {
			all = append(all, slices.Concat(list[:at], list[at+1:]))
		}
	}
	return all
}

// A grownTable has by hand how far, or how much alike, the first i numbers of one list and the first j of another are.
type grownTable [][]int64

func grown(a []int64, b []int64, of func(made grownTable, i int, j int) int64) grownTable {
	made := grownTable{}
	for i := range len(a) + 1 {
		made = append(made, make([]int64, len(b)+1))
		for j := range len(b) + 1 {
			made[i][j] = of(made, i, j)
		}
	}
	return made
}

func apartOf(a []int64, b []int64) grownTable {
	return grown(a, b, func(made grownTable, i int, j int) int64 {
		if i == 0 || j == 0 {
			return int64(i + j)
		}
		last := made[i-1][j-1]
		if a[i-1] != b[j-1] {
			last++
		}
		return min(last, made[i-1][j]+1, made[i][j-1]+1)
	})
}

func sharedOf(a []int64, b []int64) int64 {
	return grown(a, b, func(made grownTable, i int, j int) int64 {
		if i == 0 || j == 0 {
			return 0
		}
		if a[i-1] == b[j-1] {
			return made[i-1][j-1] + 1
		}
		return max(made[i-1][j], made[i][j-1])
	})[len(a)][len(b)]
}

// editsOf is Edits by hand.
func editsOf(a []int64, b []int64) []impl.Edit {
	apart := apartOf(a, b)
	list := []impl.Edit{}
	i, j := len(a), len(b)
	for i+j > 0 {
		switch {
		case i == 0:
			list, j = append(list, putIn(0, b[j-1])), j-1
		case j == 0:
			list, i = append(list, take(int64(i-1))), i-1
		case a[i-1] == b[j-1]:
			i, j = i-1, j-1
		case apart[i-1][j-1] <= apart[i-1][j] && apart[i-1][j-1] <= apart[i][j-1]:
			list, i, j = append(list, turnTo(int64(i-1), b[j-1])), i-1, j-1
		case apart[i-1][j] <= apart[i][j-1]:
			list, i = append(list, take(int64(i-1))), i-1
		default:
			list, j = append(list, putIn(int64(i), b[j-1])), j-1
		}
	}
	return list
}

// editedOf is Edited by hand.
func editedOf(a []int64, list []impl.Edit) ([]int64, bool) {
	if len(list) > 80 || len(a) > 80 {
		return nil, false
	}
	for _, e := range list {
		size := int64(len(a))
		var behind int64
		var between []int64
		switch e.Kind {
		case 1:
			behind = 1
		case 2:
			between = []int64{e.Value}
		case 3:
			behind, between = 1, []int64{e.Value}
		default:
			return nil, false
		}
		if e.At < 0 || e.At > size-behind || size+int64(len(between)) > 80+behind {
			return nil, false
		}
		a = slices.Concat(a[:e.At], between, a[e.At+behind:])
	}
	return a, true
}

// checkLists holds all that is told of two lists against the chapter done by hand.
func checkLists(t *testing.T, a []int64, b []int64) {
	t.Helper()
	want := apartOf(a, b)[len(a)][len(b)]
	if got, back := impl.Apart(a, b), impl.Apart(b, a); got != want || back != want {
		t.Fatalf("%v and %v are %d and %d apart, not %d", a, b, got, back, want)
	}
	if (want == 0) != slices.Equal(a, b) {
		t.Fatalf("%v and %v are %d apart", a, b, want)
	}
	shared := sharedOf(a, b)
	if got, back := impl.Shared(a, b), impl.Shared(b, a); got != shared || back != shared {
		t.Fatalf("%v and %v share %d and %d, not %d", a, b, got, back, shared)
	}
	list, is := impl.Edits(a, b)
	if !is || int64(len(list)) != want || !slices.Equal(list, editsOf(a, b)) {
		t.Fatalf("%v becomes %v by %v, %v, not by %v", a, b, list, is, editsOf(a, b))
	}
	if made, fine := impl.Edited(a, list); !fine || !slices.Equal(made, b) {
		t.Fatalf("%v edited by %v is %v, %v, not %v", a, list, made, fine, b)
	}
}

// checkTooLong holds what is told of two lists of which one or both are too long.
func checkTooLong(t *testing.T, a []int64, b []int64) {
	t.Helper()
	if apart, shared := impl.Apart(a, b), impl.Shared(a, b); apart != -1 || shared != -1 {
		t.Errorf("%d and %d numbers: %d apart, %d shared", len(a), len(b), apart, shared)
	}
	if list, is := impl.Edits(a, b); is || len(list) != 0 {
		t.Errorf("%d and %d numbers: edits %v, %v", len(a), len(b), list, is)
	}
}

// checkEdited holds Edited against the chapter done by hand.
func checkEdited(t *testing.T, a []int64, list []impl.Edit) {
	t.Helper()
	want, right := editedOf(a, list)
	if got, is := impl.Edited(a, list); is != right || !slices.Equal(got, want) {
		t.Fatalf("%v edited by %v is %v, %v, not %v, %v", a, list, got, is, want, right)
	}
}

func TestApartIsTheLeastNumberOfSteps(t *testing.T) {
	numbers := []int64{1, 2, 3}
	lists := fewNumbers(4, numbers...)
	places := map[string]int{}
	told := func(list []int64) string {
		text := ""
		for _, x := range list {
			text += string(rune('0' + x))
		}
		return text
	}
	for at, list := range lists {
		places[told(list)] = at
	}
	for from, a := range lists {
		far := slices.Repeat([]int64{-1}, len(lists))
		far[from] = 0
		reached := []int{from}
		for at := 0; at < len(reached); at++ {
			for _, next := range oneStepFrom(lists[reached[at]], numbers) {
				if to, is := places[told(next)]; is && far[to] < 0 {
					far[to] = far[reached[at]] + 1
					reached = append(reached, to)
				}
			}
		}
		for to, b := range lists {
			if got := impl.Apart(a, b); got != far[to] {
				t.Fatalf("%v and %v are %d apart, not %d", a, b, got, far[to])
			}
		}
	}
}

// lengthsOfParts are how long each list is that comes of one by taking numbers out.
func lengthsOfParts(list []int64) map[[5]int64]int64 {
	made := map[[5]int64]int64{}
	for which := range 1 << len(list) {
		part, size := [5]int64{}, 0
		for at, x := range list {
			if which>>at&1 == 1 {
				part[size], size = x, size+1
			}
		}
		made[part] = int64(size)
	}
	return made
}

func TestSharedIsTheLongestListThatComesOfEach(t *testing.T) {
	for _, lists := range [][][]int64{fewNumbers(5, 1, 2), fewNumbers(4, 1, 2, 3)} {
		var parts []map[[5]int64]int64
		for _, list := range lists {
			parts = append(parts, lengthsOfParts(list))
		}
		for i, a := range lists {
			for j, b := range lists {
				want := int64(0)
				for part, size := range parts[i] {
					if _, is := parts[j][part]; is {
						want = max(want, size)
					}
				}
				if got := impl.Shared(a, b); got != want {
					t.Fatalf("%v and %v share %d, not %d", a, b, got, want)
				}
			}
		}
	}
}

func TestListsThatAreNear(t *testing.T) {
	for _, pair := range []struct {
		a      []int64
		b      []int64
		shared int64
		list   []impl.Edit
	}{
		{nil, nil, 0, nil},
		{[]int64{}, nil, 0, nil},
		{nil, []int64{7}, 0, []impl.Edit{putIn(0, 7)}},
		{[]int64{7}, nil, 0, []impl.Edit{take(0)}},
		{nil, []int64{7, 8, 9}, 0, []impl.Edit{putIn(0, 9), putIn(0, 8), putIn(0, 7)}},
		{[]int64{7, 8, 9}, nil, 0, []impl.Edit{take(2), take(1), take(0)}},
		{[]int64{0}, []int64{0}, 1, nil},
		{[]int64{0}, nil, 0, []impl.Edit{take(0)}},
		{nil, []int64{0}, 0, []impl.Edit{putIn(0, 0)}},
		{[]int64{0, 0}, []int64{0}, 1, []impl.Edit{take(0)}},
		{[]int64{0}, []int64{0, 0}, 1, []impl.Edit{putIn(0, 0)}},
		{[]int64{7}, []int64{8}, 0, []impl.Edit{turnTo(0, 8)}},
		{[]int64{7}, []int64{0}, 0, []impl.Edit{turnTo(0, 0)}},
		{[]int64{7, 8, 9}, []int64{7, 8, 9}, 3, nil},
		{[]int64{7, 8, 9}, []int64{1, 2, 3}, 0, []impl.Edit{turnTo(2, 3), turnTo(1, 2), turnTo(0, 1)}},
		{[]int64{7, 8, 9}, []int64{1, 2}, 0, []impl.Edit{turnTo(2, 2), turnTo(1, 1), take(0)}},
		{[]int64{7, 8}, []int64{1, 2, 3}, 0, []impl.Edit{turnTo(1, 3), turnTo(0, 2), putIn(0, 1)}},
		{[]int64{7, 8, 9}, []int64{7, 8, 1}, 2, []impl.Edit{turnTo(2, 1)}},
		{[]int64{7, 8, 9}, []int64{7}, 1, []impl.Edit{take(2), take(1)}},
		{[]int64{7}, []int64{7, 8, 9}, 1, []impl.Edit{putIn(1, 9), putIn(1, 8)}},
		{[]int64{7, 8, 9}, []int64{1, 8, 9}, 2, []impl.Edit{turnTo(0, 1)}},
		{[]int64{7, 8, 9}, []int64{9}, 1, []impl.Edit{take(1), take(0)}},
		{[]int64{9}, []int64{7, 8, 9}, 1, []impl.Edit{putIn(0, 8), putIn(0, 7)}},
		{[]int64{7, 8, 9}, []int64{7, 9}, 2, []impl.Edit{take(1)}},
		{[]int64{7, 9}, []int64{7, 8, 9}, 2, []impl.Edit{putIn(1, 8)}},
		{[]int64{5, 5, 5}, []int64{5, 5}, 2, []impl.Edit{take(0)}},
		{[]int64{5, 5, 5}, []int64{5, 6, 5}, 2, []impl.Edit{turnTo(1, 6)}},
		{[]int64{1, 2, 3, 4}, []int64{2, 3, 5, 4, 6}, 3, []impl.Edit{putIn(4, 6), putIn(3, 5), take(0)}},
		{[]int64{107, 105, 116, 116, 101, 110}, []int64{115, 105, 116, 116, 105, 110, 103}, 4, []impl.Edit{putIn(6, 103), turnTo(4, 105), turnTo(0, 115)}},
		{[]int64{math.MinInt64, math.MaxInt64}, []int64{math.MaxInt64, math.MinInt64}, 1, []impl.Edit{turnTo(1, math.MinInt64), turnTo(0, math.MaxInt64)}},
		{[]int64{math.MinInt64, math.MaxInt64}, []int64{math.MinInt64, 1, math.MaxInt64}, 2, []impl.Edit{putIn(1, 1)}},
		{[]int64{math.MaxInt64}, []int64{-1}, 0, []impl.Edit{turnTo(0, -1)}},
		{[]int64{1 << 32}, []int64{0}, 0, []impl.Edit{turnTo(0, 0)}},
		{[]int64{256, 1}, []int64{0, 1}, 1, []impl.Edit{turnTo(0, 0)}},
	} {
		if got, is := impl.Edits(pair.a, pair.b); !is || !slices.Equal(got, pair.list) {
			t.Errorf("%v becomes %v by %v, %v, not by %v", pair.a, pair.b, got, is, pair.list)
		}
		if got := impl.Apart(pair.a, pair.b); got != int64(len(pair.list)) {
			t.Errorf("%v and %v are %d apart, not %d", pair.a, pair.b, got, len(pair.list))
		}
		if got := impl.Shared(pair.a, pair.b); got != pair.shared {
			t.Errorf("%v and %v share %d, not %d", pair.a, pair.b, got, pair.shared)
		}
		checkLists(t, pair.a, pair.b)
	}
}

// Which of turn, take and put are as short at the end of both lists, and what the chapter tells of that.
func TestWaysThatAreAsShort(t *testing.T) {
	for _, tie := range []struct {
		short string
		a     []int64
		b     []int64
		list  []impl.Edit
	}{
		{"turn", []int64{1}, []int64{2}, []impl.Edit{turnTo(0, 2)}},
		{"take", []int64{1, 2}, []int64{1}, []impl.Edit{take(1)}},
		{"put", []int64{1}, []int64{1, 2}, []impl.Edit{putIn(1, 2)}},
		{"turn take", []int64{1, 2}, []int64{3}, []impl.Edit{turnTo(1, 3), take(0)}},
		{"turn put", []int64{1}, []int64{2, 3}, []impl.Edit{turnTo(0, 3), putIn(0, 2)}},
		{"take put", []int64{1, 2, 1}, []int64{2, 1, 2}, []impl.Edit{take(2), putIn(0, 2)}},
		{"take put", []int64{7, 1, 2, 1}, []int64{7, 2, 1, 2}, []impl.Edit{take(3), putIn(1, 2)}},
		{"turn take put", []int64{1, 2}, []int64{2, 1}, []impl.Edit{turnTo(1, 1), turnTo(0, 2)}},
	} {
		i, j := len(tie.a), len(tie.b)
		apart := apartOf(tie.a, tie.b)
		least := apart[i][j] - 1
		short := ""
		for _, way := range []struct {
			name string
			far  int64
		}{{" turn", apart[i-1][j-1]}, {" take", apart[i-1][j]}, {" put", apart[i][j-1]}} {
			if way.far == least {
				short += way.name
			}
		}
		if short != " "+tie.short {
			t.Errorf("%v and %v: as short are%s, not %s", tie.a, tie.b, short, tie.short)
		}
		if got, is := impl.Edits(tie.a, tie.b); !is || !slices.Equal(got, tie.list) {
			t.Errorf("%v becomes %v by %v, %v, not by %v", tie.a, tie.b, got, is, tie.list)
		}
		checkLists(t, tie.a, tie.b)
	}
}

func TestSharedInMoreThanOneWay(t *testing.T) {
	for _, pair := range []struct {
		a    []int64
		b    []int64
		want int64
	}{
		{[]int64{1, 2}, []int64{2, 1}, 1},
		{[]int64{1, 2, 3}, []int64{3, 2, 1}, 1},
		{[]int64{1, 2, 3, 4}, []int64{3, 4, 1, 2}, 2},
		{[]int64{1, 1, 1}, []int64{1, 1}, 2},
		{[]int64{1, 2, 1, 2}, []int64{2, 1, 2, 1}, 3},
		{[]int64{1, 2, 3, 2, 4, 1, 2}, []int64{2, 4, 3, 1, 2, 1}, 4},
		{[]int64{1, 2, 3, 1}, []int64{1, 3, 2, 1}, 3},
		{[]int64{1, 2}, []int64{2, 3, 1}, 1},
	} {
		if got := impl.Shared(pair.a, pair.b); got != pair.want {
			t.Errorf("%v and %v share %d, not %d", pair.a, pair.b, got, pair.want)
		}
		checkLists(t, pair.a, pair.b)
	}
}

func TestFewNumbersAsByHand(t *testing.T) {
	for _, lists := range [][][]int64{fewNumbers(4, 1, 2, 3), fewNumbers(6, 0, -1), fewNumbers(3, math.MinInt64, math.MaxInt64, 0, -1)} {
		for _, a := range lists {
			for _, b := range lists {
				checkLists(t, a, b)
			}
		}
	}
}

func TestManyNumbersAsByHand(t *testing.T) {
	next := numbersFrom(9)
	for _, kinds := range []int{1, 2, 3, 5, 50} {
		for range 300 {
			checkLists(t, mixedNumbers(next(41), kinds, next), mixedNumbers(next(41), kinds, next))
		}
		for range 50 {
			checkLists(t, mixedNumbers(40, kinds, next), mixedNumbers(40, kinds, next))
		}
	}
}

// Lists of which one comes of the other by some steps: how far they are apart is told by each number from 0 up to 40.
func TestListsSomeStepsApart(t *testing.T) {
	next := numbersFrom(99)
	for size := range 41 {
		a := rising(size)
		for turned := range size + 1 {
			b := slices.Clone(a)
			for at := range turned {
				b[(at*7+turned)%size] = int64(-at - 1)
			}
			checkLists(t, a, b)
			checkLists(t, a, a[turned:])
			checkLists(t, a, a[:turned])
		}
		b := slices.Clone(a)
		for range next(20) {
			b, _ = impl.Edited(b, []impl.Edit{putIn(int64(next(len(b)+1)), int64(next(60)))})
		}
		checkLists(t, a, b[:min(len(b), 40)])
	}
}

func TestApartIsADistance(t *testing.T) {
	lists := fewNumbers(3, 1, 2, 3)
	next := numbersFrom(999)
	for range 30 {
		lists = append(lists, mixedNumbers(next(41), 3, next))
	}
	var far [][]int64
	for i, a := range lists {
		far = append(far, nil)
		for _, b := range lists {
			far[i] = append(far[i], impl.Apart(a, b))
		}
	}
	for i, a := range lists {
		for j, b := range lists {
			if far[i][j] != far[j][i] || (far[i][j] == 0) != slices.Equal(a, b) || far[i][j] < 0 {
				t.Fatalf("%v and %v: %d and %d", a, b, far[i][j], far[j][i])
			}
			for k, c := range lists {
				if far[i][k] > far[i][j]+far[j][k] {
					t.Fatalf("%v, %v and %v: %d is more than %d and %d", a, b, c, far[i][k], far[i][j], far[j][k])
				}
			}
		}
	}
}

func TestListsOfTheGreatestSize(t *testing.T) {
	whole, other := rising(40), slices.Repeat([]int64{-1}, 40)
	for _, pair := range [][2][]int64{
		{whole, nil}, {nil, whole}, {whole, whole}, {whole, other}, {other, whole}, {other, other}, {whole, {65}}, {{65}, whole}, {whole, {104}}, {whole, whole[1:]}, {whole[:39], whole},
		{whole, append(slices.Clone(whole[1:]), 65)}, {whole, append([]int64{104}, whole[:39]...)}, {whole[20:], whole[:20]},
	} {
		checkLists(t, pair[0], pair[1])
	}
	if apart, shared := impl.Apart(whole, other), impl.Shared(whole, other); apart != 40 || shared != 0 {
		t.Errorf("nothing alike: %d apart, %d shared", apart, shared)
	}
	if apart, shared := impl.Apart(whole, whole), impl.Shared(whole, whole); apart != 0 || shared != 40 {
		t.Errorf("all alike: %d apart, %d shared", apart, shared)
	}
}

func TestListsThatAreTooLong(t *testing.T) {
	for _, size := range []int{41, 42, 80, 81, 1000, 5000} {
		long := slices.Repeat([]int64{7}, size)
		for _, list := range [][]int64{nil, {}, {7}, {8}, long[:39], long[:40], rising(40), long, rising(41)} {
			checkTooLong(t, long, list)
			checkTooLong(t, list, long)
		}
	}
}

func TestEditedByOne(t *testing.T) {
	a := []int64{5, 6, 7}
	for _, edit := range []struct {
		a    []int64
		edit impl.Edit
		want []int64
		is   bool
	}{
		{a, take(0), []int64{6, 7}, true},
		{a, take(1), []int64{5, 7}, true},
		{a, take(2), []int64{5, 6}, true},
		{a, take(3), nil, false},
		{a, take(-1), nil, false},
		{a, putIn(0, 9), []int64{9, 5, 6, 7}, true},
		{a, putIn(2, 9), []int64{5, 6, 9, 7}, true},
		{a, putIn(3, 9), []int64{5, 6, 7, 9}, true},
		{a, putIn(4, 9), nil, false},
		{a, putIn(-1, 9), nil, false},
		{a, turnTo(0, 9), []int64{9, 6, 7}, true},
		{a, turnTo(2, 9), []int64{5, 6, 9}, true},
		{a, turnTo(3, 9), nil, false},
		{a, turnTo(-1, 9), nil, false},
		{nil, take(0), nil, false},
		{nil, turnTo(0, 9), nil, false},
		{nil, putIn(0, 9), []int64{9}, true},
		{nil, putIn(1, 9), nil, false},
		{nil, putIn(-1, 9), nil, false},
		{[]int64{5}, take(0), nil, true},
		{[]int64{5}, turnTo(0, 5), []int64{5}, true},
		{a, impl.Edit{Kind: 1, At: 1, Value: 9}, []int64{5, 7}, true},
		{a, impl.Edit{Kind: 1, At: 0, Value: math.MinInt64}, []int64{6, 7}, true},
		{a, putIn(1, math.MaxInt64), []int64{5, math.MaxInt64, 6, 7}, true},
		{a, putIn(1, math.MinInt64), []int64{5, math.MinInt64, 6, 7}, true},
		{a, turnTo(1, math.MaxInt64), []int64{5, math.MaxInt64, 7}, true},
		{a, turnTo(1, math.MinInt64), []int64{5, math.MinInt64, 7}, true},
		{a, impl.Edit{}, nil, false},
		{a, impl.Edit{Kind: 4}, nil, false},
		{a, impl.Edit{Kind: -1}, nil, false},
	} {
		got, is := impl.Edited(edit.a, []impl.Edit{edit.edit})
		if is != edit.is || !slices.Equal(got, edit.want) {
			t.Errorf("%v edited by %v is %v, %v", edit.a, edit.edit, got, is)
		}
		checkEdited(t, edit.a, []impl.Edit{edit.edit})
	}
}

func TestEditsThatAreNoneEndIt(t *testing.T) {
	a := []int64{5, 6, 7}
	for _, far := range append([]int64{0, 4, 5, 60}, farNumbers...) {
		kind := impl.Edit{Kind: far, At: 1, Value: 9}
		for _, list := range [][]impl.Edit{{kind}, {take(0), kind}, {kind, take(0)}, {{Kind: far}}} {
			if got, is := impl.Edited(a, list); is || len(got) != 0 {
				t.Errorf("edited by %v it is %v, %v", list, got, is)
			}
		}
	}
	for _, far := range append([]int64{4, 5, 40, 60, 80}, farNumbers...) {
		for _, edit := range []impl.Edit{take(far), putIn(far, 9), turnTo(far, 9)} {
			for _, list := range [][]impl.Edit{{edit}, {turnTo(0, 1), edit}, {edit, turnTo(0, 1)}, {putIn(3, 1), take(0), edit}} {
				if got, is := impl.Edited(a, list); is || len(got) != 0 {
					t.Errorf("edited by %v it is %v, %v", list, got, is)
				}
			}
		}
	}
}

func TestEditedBySome(t *testing.T) {
	a := []int64{5, 6, 7}
	for _, some := range []struct {
		list []impl.Edit
		want []int64
		is   bool
	}{
		{nil, []int64{5, 6, 7}, true},
		{[]impl.Edit{}, []int64{5, 6, 7}, true},
		{[]impl.Edit{take(0), take(0), take(0)}, nil, true},
		{[]impl.Edit{take(0), take(0), take(0), take(0)}, nil, false},
		{[]impl.Edit{take(0), take(0), take(0), putIn(0, 1)}, []int64{1}, true},
		{[]impl.Edit{take(2), take(1), take(0)}, nil, true},
		{[]impl.Edit{take(0), take(1), take(2)}, nil, false},
		{[]impl.Edit{take(1), take(1)}, []int64{5}, true},
		{[]impl.Edit{take(0), turnTo(2, 1)}, nil, false},
		{[]impl.Edit{turnTo(2, 1), take(0)}, []int64{6, 1}, true},
		{[]impl.Edit{take(0), putIn(3, 1)}, nil, false},
		{[]impl.Edit{putIn(3, 1), take(0)}, []int64{6, 7, 1}, true},
		{[]impl.Edit{take(0), take(2)}, nil, false},
		{[]impl.Edit{putIn(3, 1), take(3)}, []int64{5, 6, 7}, true},
		{[]impl.Edit{take(3), putIn(3, 1)}, nil, false},
		{[]impl.Edit{putIn(3, 1), turnTo(3, 2)}, []int64{5, 6, 7, 2}, true},
		{[]impl.Edit{turnTo(3, 2), putIn(3, 1)}, nil, false},
		{[]impl.Edit{putIn(3, 1), putIn(4, 2)}, []int64{5, 6, 7, 1, 2}, true},
		{[]impl.Edit{putIn(4, 2), putIn(3, 1)}, nil, false},
		{[]impl.Edit{putIn(0, 1), putIn(0, 2)}, []int64{2, 1, 5, 6, 7}, true},
		{[]impl.Edit{turnTo(0, 1), turnTo(0, 2)}, []int64{2, 6, 7}, true},
		{[]impl.Edit{putIn(1, 8), turnTo(1, 9), take(2)}, []int64{5, 9, 7}, true},
	} {
		got, is := impl.Edited(a, some.list)
		if is != some.is || !slices.Equal(got, some.want) {
			t.Errorf("edited by %v it is %v, %v, not %v, %v", some.list, got, is, some.want, some.is)
		}
		checkEdited(t, a, some.list)
	}
}

func TestEditedAtTheLimits(t *testing.T) {
	full := rising(80)
	puts, turns, takes := slices.Repeat([]impl.Edit{putIn(0, 1)}, 82), slices.Repeat([]impl.Edit{turnTo(79, 1)}, 82), slices.Repeat([]impl.Edit{take(0)}, 82)
	for _, at := range []struct {
		a    []int64
		list []impl.Edit
		is   bool
	}{
		{full, nil, true},
		{rising(81), nil, false},
		{rising(1000), nil, false},
		{rising(81), takes[:1], false},
		{rising(81), turns[:1], false},
		{full[:79], nil, true},
		{full, turns[:80], true},
		{full, turns[:81], false},
		{full, takes[:80], true},
		{full, takes[:79], true},
		{full, takes[:81], false},
		{rising(41), takes[:41], true},
		{nil, puts[:80], true},
		{nil, puts[:81], false},
		{full[:1], puts[:79], true},
		{full[:1], puts[:80], false},
		{full[:40], puts[:40], true},
		{full[:40], puts[:41], false},
		{full[:79], puts[:1], true},
		{full[:79], puts[:2], false},
		{full, puts[:1], false},
		{full, []impl.Edit{putIn(80, 1)}, false},
		{full, []impl.Edit{putIn(80, 1), take(0)}, false},
		{full, []impl.Edit{take(0), putIn(79, 1)}, true},
		{full, []impl.Edit{take(0), putIn(80, 1)}, false},
		{full, []impl.Edit{take(79)}, true},
		{full, []impl.Edit{take(80)}, false},
		{full, []impl.Edit{turnTo(79, 1)}, true},
		{full, []impl.Edit{turnTo(80, 1)}, false},
		{full[:79], []impl.Edit{putIn(79, 1), turnTo(79, 2), take(0), putIn(79, 3)}, true},
		{full[:79], []impl.Edit{putIn(79, 1), putIn(80, 2), take(0), take(0)}, false},
		{full[:2], slices.Repeat([]impl.Edit{take(0), putIn(1, 4)}, 40), true},
		{full[:2], append(slices.Repeat([]impl.Edit{take(0), putIn(1, 4)}, 40), turnTo(0, 1)), false},
		{nil, make([]impl.Edit, 100000), false},
	} {
		got, is := impl.Edited(at.a, at.list)
		if is != at.is || !is && len(got) != 0 {
			t.Errorf("%d numbers edited by %d are %v, %v", len(at.a), len(at.list), got, is)
		}
		checkEdited(t, at.a, at.list)
	}
}

func TestFewEditsAsByHand(t *testing.T) {
	var edits []impl.Edit
	for kind := int64(-1); kind <= 4; kind++ {
		for at := int64(-1); at <= 4; at++ {
			edits = append(edits, impl.Edit{Kind: kind, At: at, Value: at*10 + kind})
		}
	}
	for size := range 4 {
		a := rising(size)
		checkEdited(t, a, nil)
		for _, one := range edits {
			checkEdited(t, a, []impl.Edit{one})
			for _, two := range edits {
				checkEdited(t, a, []impl.Edit{one, two})
				for _, three := range edits {
					checkEdited(t, a, []impl.Edit{one, two, three})
				}
			}
		}
	}
}

func TestManyEditsAsByHand(t *testing.T) {
	next := numbersFrom(9999)
	for range 3000 {
		a := mixedNumbers(next(82), 5, next)
		var list []impl.Edit
		size := len(a)
		for range next(83) {
			edit := impl.Edit{Kind: int64(1 + next(3)), At: int64(next(max(size, 1))), Value: int64(next(1000))}
			size += []int{0, -1, 1, 0}[edit.Kind]
			list = append(list, edit)
		}
		checkEdited(t, a, list)
	}
}

// roomyNumbers are lists within longer ones, with numbers ahead and behind; many are of one and the same memory.
func roomyNumbers() (lists [][]int64, rooms [][]int64) {
	short, long := append(rising(12), -2, -3), slices.Concat([]int64{-4}, mixedNumbers(90, 3, numbersFrom(1)), []int64{-5, -6})
	return [][]int64{
		short[:0], short[0:3], short[1:4], short[2:12], short[3:3], long[1:4], long[1:41], long[30:70], long[1:42], long[1:81], long[1:82], long[2:80],
	}, [][]int64{short, long}
}

// roomyEdits are likewise.
func roomyEdits() (lists [][]impl.Edit, room []impl.Edit) {
	room = []impl.Edit{take(0), putIn(1, 7), turnTo(0, 8), putIn(0, 9), take(1), putIn(0, 3), putIn(2, 4), take(60), {Kind: -7, At: -7, Value: -7}, {}}
	return [][]impl.Edit{room[:0], room[:1], room[1:2], room[1:3], room[3:4], room[1:7], room[:7], room[5:8], room[8:9]}, room
}

// An editAnswer is what one call of this layer answers.
type editAnswer struct {
	numbers []int64
	edits   []impl.Edit
	is      bool
}

func sameEditAnswer(a editAnswer, b editAnswer) bool {
	return a.is == b.is && slices.Equal(a.numbers, b.numbers) && slices.Equal(a.edits, b.edits)
}

// allEditAnswers are what comes of the lists by each function.
func allEditAnswers(lists [][]int64, edits [][]impl.Edit) []editAnswer {
	var all []editAnswer
	for _, a := range lists {
		for _, b := range lists {
			list, is := impl.Edits(a, b)
			all = append(all, editAnswer{[]int64{impl.Apart(a, b), impl.Shared(a, b)}, list, is})
		}
		for _, list := range edits {
			numbers, is := impl.Edited(a, list)
			all = append(all, editAnswer{numbers, nil, is})
		}
	}
	return all
}

func TestEditsArgumentsStayAndAnswersAreNew(t *testing.T) {
	lists, rooms := roomyNumbers()
	edits, room := roomyEdits()
	before, editsBefore := cloned(rooms), slices.Clone(room)
	stay := func() bool {
		return slices.EqualFunc(rooms, before, slices.Equal[[]int64]) && slices.Equal(room, editsBefore)
	}
	ahead, answers := allEditAnswers(lists, edits), allEditAnswers(lists, edits)
	if !stay() {
		t.Fatal("what was handed in was written into")
	}
	for i, answer := range answers {
		for at := range answer.numbers[:cap(answer.numbers)] {
			answer.numbers[:cap(answer.numbers)][at] = -9
		}
		clear(answer.edits[:cap(answer.edits)])
		if !stay() {
			t.Fatalf("answer %d shares with what was handed in", i)
		}
	}
	for i, answer := range allEditAnswers(lists, edits) {
		if !sameEditAnswer(answer, ahead[i]) {
			t.Fatalf("answer %d shares with another: %v, not %v", i, answer, ahead[i])
		}
	}
}

// A function of this layer that panics, or doesn't end, on anything here fails by that.
func TestEditsAnswerAtEveryArgument(t *testing.T) {
	lists := [][]int64{nil, {}, {0}, farNumbers, farNumbers[:3], noRunes, rising(40), rising(41), rising(80), rising(81), make([]int64, 100000)}
	numbers := append([]int64{0, 1, 2, 3, 4, 39, 40, 41, 79, 80, 81}, farNumbers...)
	for _, a := range lists {
		for _, b := range lists {
			if len(a) > 40 || len(b) > 40 {
				checkTooLong(t, a, b)
			} else {
				checkLists(t, a, b)
			}
		}
		for _, kind := range numbers {
			for _, at := range numbers {
				edit := impl.Edit{Kind: kind, At: at, Value: kind}
				checkEdited(t, a, []impl.Edit{edit})
				checkEdited(t, a, []impl.Edit{edit, {Kind: 1, At: at, Value: at}, edit})
				checkEdited(t, a, slices.Repeat([]impl.Edit{edit}, 80))
			}
		}
	}
}

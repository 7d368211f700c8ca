package tests

import (
	"math"
	"slices"
	"strconv"
	"strings"
	"testing"

	"loop.example/g00215/impl"
)

// rightStyles are all of them.
func rightStyles() []impl.Style {
	var all []impl.Style
	for fore := int64(0); fore <= 8; fore++ {
		for back := int64(0); back <= 8; back++ {
			for bits := range 8 {
				all = append(all, impl.Style{Fore: fore, Back: back, Bold: bits&1 > 0, Under: bits&2 > 0, Turned: bits&4 > 0})
			}
		}
	}
	return all
}

// wrongColors are no colors; some are one where only their lowest bits are read.
var wrongColors = []int64{
	math.MinInt64, math.MinInt64 + 1, -1 << 32, -256, -9, -8, -2, -1,
	9, 10, 16, 30, 37, 255, 256, 257, 1 << 16, 1 << 31, 1 << 32, 1<<32 + 3, 1 << 62, math.MaxInt64,
}

// wrongStyles have a wrong color in Fore, in Back, and in both.
func wrongStyles() []impl.Style {
	var all []impl.Style
	for _, color := range wrongColors {
		all = append(all,
			impl.Style{Fore: color},
			impl.Style{Back: color},
			impl.Style{Fore: color, Back: 8, Bold: true},
			impl.Style{Fore: 8, Back: color, Under: true},
			impl.Style{Fore: color, Back: color, Turned: true},
			impl.Style{Fore: color, Back: -color, Bold: true, Under: true, Turned: true},
		)
	}
	return all
}

// someParams are the first and the last ones of each kind, what lies right beside them, and what only looks like one in its lowest bits.
var someParams = []int64{
	0, 1, 2, 3, 4, 5, 6, 7, 8, 9, 10, 21, 22, 23, 24, 25, 26, 27, 28, 29,
	30, 31, 36, 37, 38, 39, 40, 41, 46, 47, 48, 49, 50, 51,
	90, 97, 99, 100, 107, 109, 130, 256, 257, 9999, 10000, 1 << 31, 1 << 32, 1<<32 + 1, 1<<32 + 31, 1 << 62, math.MaxInt64,
	-1, -2, -4, -7, -22, -30, -39, -40, -49, -255, -1 << 31, -1 << 32, -1<<32 + 1, math.MinInt64, math.MinInt64 + 1,
}

// changed is what one param makes of a style, by hand.
func changed(s impl.Style, param int64) impl.Style {
	switch {
	case param == 0:
		s = impl.Style{}
	case param == 1, param == 22:
		s.Bold = param == 1
	case param == 4, param == 24:
		s.Under = param == 4
	case param == 7, param == 27:
		s.Turned = param == 7
	case param >= 30 && param <= 37:
		s.Fore = param - 29
	case param == 39:
		s.Fore = 0
	case param >= 40 && param <= 47:
		s.Back = param - 39
	case param == 49:
		s.Back = 0
	}
	return s
}

// styledBy is Styled by hand.
func styledBy(s impl.Style, params []int64) impl.Style {
	right := s.Fore >= 0 && s.Fore < 9 && s.Back >= 0 && s.Back < 9
	if !right || len(params) == 0 || len(params) > 16 {
		return impl.Style{}
	}
	for _, param := range params {
		s = changed(s, param)
	}
	return s
}

func checkStyled(t *testing.T, s impl.Style, params []int64) {
	t.Helper()
	got := impl.Styled(s, params)
	if want := styledBy(s, params); got != want {
		t.Fatalf("%v by %v: %v, not %v", s, params, got, want)
	}
	if !impl.StyleOk(got) {
		t.Fatalf("%v by %v: %v is wrong", s, params, got)
	}
}

func TestStyleOk(t *testing.T) {
	all := rightStyles()
	if len(all) != 9*9*8 {
		t.Fatal(len(all))
	}
	for _, s := range all {
		if !impl.StyleOk(s) {
			t.Error(s)
		}
	}
	for _, s := range wrongStyles() {
		if impl.StyleOk(s) {
			t.Error(s)
		}
	}
}

func TestStyleOkOfColorsAtTheEdges(t *testing.T) {
	for color, right := range map[int64]bool{-1: false, 0: true, 1: true, 7: true, 8: true, 9: false} {
		for other := int64(0); other <= 8; other++ {
			if impl.StyleOk(impl.Style{Fore: color, Back: other}) != right {
				t.Error("Fore", color, other)
			}
			if impl.StyleOk(impl.Style{Fore: other, Back: color}) != right {
				t.Error("Back", color, other)
			}
		}
	}
}

func TestStyledOfOneParam(t *testing.T) {
	for _, s := range rightStyles() {
		for param := int64(-60); param <= 130; param++ {
			checkStyled(t, s, []int64{param})
		}
		for _, param := range someParams {
			checkStyled(t, s, []int64{param})
		}
	}
}

func TestStyledOfSome(t *testing.T) {
	full := impl.Style{Fore: 3, Back: 8, Bold: true, Under: true, Turned: true}
	for _, c := range []struct {
		from   impl.Style
		params []int64
		want   impl.Style
	}{
		{impl.Style{}, []int64{1}, impl.Style{Bold: true}},
		{impl.Style{}, []int64{4}, impl.Style{Under: true}},
		{impl.Style{}, []int64{7}, impl.Style{Turned: true}},
		{impl.Style{}, []int64{30}, impl.Style{Fore: 1}},
		{impl.Style{}, []int64{37}, impl.Style{Fore: 8}},
		{impl.Style{}, []int64{40}, impl.Style{Back: 1}},
		{impl.Style{}, []int64{47}, impl.Style{Back: 8}},
		{full, []int64{22}, impl.Style{Fore: 3, Back: 8, Under: true, Turned: true}},
		{full, []int64{24}, impl.Style{Fore: 3, Back: 8, Bold: true, Turned: true}},
		{full, []int64{27}, impl.Style{Fore: 3, Back: 8, Bold: true, Under: true}},
		{full, []int64{39}, impl.Style{Back: 8, Bold: true, Under: true, Turned: true}},
		{full, []int64{49}, impl.Style{Fore: 3, Bold: true, Under: true, Turned: true}},
		{full, []int64{29}, full},
		{full, []int64{38}, full},
		{full, []int64{48}, full},
		{full, []int64{50}, full},
		{full, []int64{-1}, full},
		{full, []int64{-31, -40, math.MinInt64}, full},
		{full, []int64{0}, impl.Style{}},
		{full, []int64{0, 0}, impl.Style{}},
		{full, []int64{1, 31, 0}, impl.Style{}},
		{full, []int64{0, 1, 31}, impl.Style{Fore: 2, Bold: true}},
		{full, []int64{1, 32, 0, 43, 4}, impl.Style{Back: 4, Under: true}},
		{impl.Style{}, []int64{1, 22}, impl.Style{}},
		{impl.Style{}, []int64{22, 1}, impl.Style{Bold: true}},
		{impl.Style{}, []int64{31, 35, 44, 41}, impl.Style{Fore: 6, Back: 2}},
		{impl.Style{}, []int64{39, 31, 49, 41}, impl.Style{Fore: 2, Back: 2}},
		{impl.Style{}, []int64{31, 39, 41, 49}, impl.Style{}},
		{impl.Style{}, []int64{31, 44, 7, 38, 5, 1}, impl.Style{Fore: 2, Back: 5, Bold: true, Turned: true}},
	} {
		if got := impl.Styled(c.from, c.params); got != c.want {
			t.Errorf("%v by %v: %v, not %v", c.from, c.params, got, c.want)
		}
	}
}

func TestStyledOfNoParamsIsAsOfOneNought(t *testing.T) {
	for _, s := range rightStyles() {
		for _, params := range [][]int64{nil, {}, {0}} {
			if got := impl.Styled(s, params); got != (impl.Style{}) {
				t.Fatalf("%v by %v: %v", s, params, got)
			}
		}
	}
}

func TestStyledInTurn(t *testing.T) {
	seed := uint64(3)
	next := func(below int) int {
		seed = seed*6364136223846793005 + 1442695040888963407
		return int(seed>>33) % below
	}
	all := rightStyles()
	for range 20000 {
		s := all[next(len(all))]
		params := make([]int64, 1+next(16))
		byEach := s
		for i := range params {
			params[i] = someParams[next(len(someParams))]
			if next(3) > 0 {
				params[i] = int64(next(52))
			}
			byEach = impl.Styled(byEach, params[i:i+1])
		}
		checkStyled(t, s, params)
		if got := impl.Styled(s, params); got != byEach {
			t.Fatalf("%v by %v: %v at once, %v one by one", s, params, got, byEach)
		}
	}
}

func TestStyledAtTheLimitOfParams(t *testing.T) {
	from := impl.Style{Fore: 3, Under: true}
	for _, n := range []int{1, 2, 14, 15, 16, 17, 18, 32, 256, 257, 272, 65537, 100000} {
		for _, last := range []int64{1, 44, 5, -1} {
			params := slices.Repeat([]int64{5}, n)
			params[n-1] = last
			want := changed(from, last)
			if n > 16 {
				want = impl.Style{}
			}
			if got := impl.Styled(from, params); got != want {
				t.Errorf("%d params, the last one %d: %v, not %v", n, last, got, want)
			}
		}
	}
	if impl.MaxParams != 16 {
		t.Error(impl.MaxParams)
	}
}

func TestStyledOfAWrongStyle(t *testing.T) {
	for _, s := range wrongStyles() {
		for _, params := range [][]int64{nil, {}, {0}, {1}, {5}, {39}, {49}, {39, 49}, {0, 1}, {31, 41}, {-1}, slices.Repeat([]int64{1}, 17)} {
			if got := impl.Styled(s, params); got != (impl.Style{}) {
				t.Errorf("%v by %v: %v", s, params, got)
			}
		}
	}
}

// paramsOf is Params by hand.
func paramsOf(from impl.Style, to impl.Style) []int64 {
	params := []int64{}
	if from != to && to == (impl.Style{}) {
		return []int64{0}
	}
	flag := func(a bool, b bool, set int64, unset int64) {
		if a && !b {
			params = append(params, unset)
		} else if b && !a {
			params = append(params, set)
		}
	}
	color := func(a int64, b int64, colors [9]int64) {
		if a != b {
			params = append(params, colors[b])
		}
	}
	flag(from.Bold, to.Bold, 1, 22)
	flag(from.Under, to.Under, 4, 24)
	flag(from.Turned, to.Turned, 7, 27)
	color(from.Fore, to.Fore, [9]int64{39, 30, 31, 32, 33, 34, 35, 36, 37})
	color(from.Back, to.Back, [9]int64{49, 40, 41, 42, 43, 44, 45, 46, 47})
	return params
}

// signOf is Sign by hand, of what Params should be.
func signOf(params []int64) string {
	if len(params) == 0 {
		return ""
	}
	var words []string
	for _, param := range params {
		words = append(words, strconv.FormatInt(param, 10))
	}
	return "\x1b[" + strings.Join(words, ";") + "m"
}

// readSign gives the numbers of a Sign, and whether it is one.
func readSign(s string) ([]int64, bool) {
	inner, begun := strings.CutPrefix(s, "\x1b[")
	inner, ended := strings.CutSuffix(inner, "m")
	var params []int64
	for word := range strings.SplitSeq(inner, ";") {
		n, err := strconv.ParseInt(word, 10, 64)
		if err != nil || strconv.FormatInt(n, 10) != word {
			return nil, false
		}
		params = append(params, n)
	}
	return params, begun && ended
}

func TestStyledByParamsIsTheOther(t *testing.T) {
	all := rightStyles()
	for _, from := range all {
		for _, to := range all {
			params := impl.Params(from, to)
			if from == to {
				if len(params) != 0 {
					t.Fatalf("%v to itself: %v", from, params)
				}
				continue
			}
			if len(params) < 1 || len(params) > 5 {
				t.Fatalf("%v to %v: %v", from, to, params)
			}
			if got := impl.Styled(from, params); got != to {
				t.Fatalf("%v by %v: %v, not %v", from, params, got, to)
			}
		}
	}
}

func TestParamsAreThoseOfTheOtherFieldsInOrder(t *testing.T) {
	all := rightStyles()
	for _, from := range all {
		for _, to := range all {
			if got, want := impl.Params(from, to), paramsOf(from, to); !slices.Equal(got, want) {
				t.Fatalf("%v to %v: %v, not %v", from, to, got, want)
			}
		}
	}
}

func TestSignOfEachToEach(t *testing.T) {
	all := rightStyles()
	for _, from := range all {
		for _, to := range all {
			sign := impl.Sign(from, to)
			if sign != signOf(paramsOf(from, to)) {
				t.Fatalf("%v to %v: %q", from, to, sign)
			}
			if from == to {
				continue
			}
			params, ok := readSign(sign)
			if !ok || impl.Styled(from, params) != to {
				t.Fatalf("%v to %v: %q", from, to, sign)
			}
		}
	}
}

func TestParamsAndSignOfSome(t *testing.T) {
	full := impl.Style{Fore: 3, Back: 8, Bold: true, Under: true, Turned: true}
	other := impl.Style{Fore: 8, Back: 1}
	for _, c := range []struct {
		from impl.Style
		to   impl.Style
		sign string
	}{
		{impl.Style{}, impl.Style{}, ""},
		{full, full, ""},
		{other, other, ""},
		{full, impl.Style{}, "\x1b[0m"},
		{other, impl.Style{}, "\x1b[0m"},
		{impl.Style{Bold: true}, impl.Style{}, "\x1b[0m"},
		{impl.Style{Fore: 1}, impl.Style{}, "\x1b[0m"},
		{impl.Style{}, full, "\x1b[1;4;7;32;47m"},
		{impl.Style{}, other, "\x1b[37;40m"},
		{full, other, "\x1b[22;24;27;37;40m"},
		{other, full, "\x1b[1;4;7;32;47m"},
		{full, impl.Style{Fore: 3, Back: 8, Under: true, Turned: true}, "\x1b[22m"},
		{full, impl.Style{Fore: 3, Back: 8, Bold: true, Turned: true}, "\x1b[24m"},
		{full, impl.Style{Fore: 3, Back: 8, Bold: true, Under: true}, "\x1b[27m"},
		{full, impl.Style{Back: 8, Bold: true, Under: true, Turned: true}, "\x1b[39m"},
		{full, impl.Style{Fore: 3, Bold: true, Under: true, Turned: true}, "\x1b[49m"},
		{full, impl.Style{Bold: true}, "\x1b[24;27;39;49m"},
		{impl.Style{}, impl.Style{Bold: true}, "\x1b[1m"},
		{impl.Style{}, impl.Style{Under: true}, "\x1b[4m"},
		{impl.Style{}, impl.Style{Turned: true}, "\x1b[7m"},
		{impl.Style{}, impl.Style{Fore: 1}, "\x1b[30m"},
		{impl.Style{}, impl.Style{Fore: 8}, "\x1b[37m"},
		{impl.Style{}, impl.Style{Back: 1}, "\x1b[40m"},
		{impl.Style{}, impl.Style{Back: 8}, "\x1b[47m"},
	} {
		if got := impl.Sign(c.from, c.to); got != c.sign {
			t.Errorf("%v to %v: %q, not %q", c.from, c.to, got, c.sign)
		}
		if got := impl.Params(c.from, c.to); signOf(got) != c.sign {
			t.Errorf("%v to %v: %v, not those of %q", c.from, c.to, got, c.sign)
		}
	}
}

func TestParamsAndSignOfWrongStyles(t *testing.T) {
	check := func(from impl.Style, to impl.Style) {
		if params := impl.Params(from, to); len(params) != 0 {
			t.Errorf("%v to %v: %v", from, to, params)
		}
		if sign := impl.Sign(from, to); sign != "" {
			t.Errorf("%v to %v: %q", from, to, sign)
		}
	}
	right := []impl.Style{{}, {Bold: true}, {Fore: 8, Back: 8}, {Fore: 3, Back: 1, Bold: true, Under: true, Turned: true}}
	wrong := wrongStyles()
	for _, w := range wrong {
		for _, r := range right {
			check(w, r)
			check(r, w)
		}
		for _, v := range wrong {
			check(w, v)
		}
	}
}

func TestStylesArgumentsStayAndAnswersAreNew(t *testing.T) {
	room := []int64{1, 0, 31, 7, 8, 9}
	params := room[:3]
	if impl.Styled(impl.Style{Back: 4}, params) != (impl.Style{Fore: 2}) || !slices.Equal(room, []int64{1, 0, 31, 7, 8, 9}) {
		t.Error(room)
	}
	some, other := impl.Style{Fore: 1, Bold: true}, impl.Style{Back: 2, Under: true}
	for _, c := range []struct {
		from impl.Style
		to   impl.Style
		want []int64
	}{
		{some, other, []int64{22, 4, 39, 41}},
		{some, impl.Style{}, []int64{0}},
		{some, some, nil},
		{some, impl.Style{Back: 9}, nil},
	} {
		one, two := impl.Params(c.from, c.to), impl.Params(c.from, c.to)
		one = one[:cap(one)]
		for i := range one {
			one[i] = -1
		}
		if !slices.Equal(two, c.want) || !slices.Equal(impl.Params(c.from, c.to), c.want) {
			t.Errorf("%v to %v: %v, not %v", c.from, c.to, two, c.want)
		}
	}
}

// A function of this layer that panics, or doesn't end, on anything here fails by that.
func TestStylesAnswerAtEveryArgument(t *testing.T) {
	colors := append([]int64{0, 1, 8}, wrongColors...)
	var some []impl.Style
	for _, fore := range colors {
		for _, back := range colors {
			some = append(some, impl.Style{Fore: fore, Back: back}, impl.Style{Fore: fore, Back: back, Bold: true, Under: true, Turned: true})
		}
	}
	many := slices.Repeat(someParams, 2000)
	for _, s := range some {
		checkStyled(t, s, someParams[:16])
		checkStyled(t, s, someParams)
		checkStyled(t, s, many)
		for _, to := range some[:200] {
			right := impl.StyleOk(s) && impl.StyleOk(to)
			params, sign := impl.Params(s, to), impl.Sign(s, to)
			if right && sign != signOf(paramsOf(s, to)) || !right && len(params)+len(sign) > 0 {
				t.Fatalf("%v to %v: %v %q", s, to, params, sign)
			}
		}
	}
}

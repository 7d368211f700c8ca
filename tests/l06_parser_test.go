package tests

import (
	"math"
	"slices"
	"strings"
	"testing"
	"unicode/utf8"

	"loop.example/g00215/impl"
)

func printed(r int64) impl.Action {
	return impl.Action{Kind: 1, Rune: r}
}

func controlled(r int64) impl.Action {
	return impl.Action{Kind: 2, Rune: r}
}

func escaped(r int64) impl.Action {
	return impl.Action{Kind: 3, Rune: r}
}

func listed(r int64, mark int64, params ...int64) impl.Action {
	return impl.Action{Kind: 4, Rune: r, Params: params, Mark: mark}
}

func titled(text ...int64) impl.Action {
	return impl.Action{Kind: 5, Text: text}
}

func inGround() impl.Parser {
	return impl.Parser{State: 1}
}

func inEscape() impl.Parser {
	return impl.Parser{State: 2}
}

func inList(mark int64, params ...int64) impl.Parser {
	return impl.Parser{State: 3, Params: params, Mark: mark}
}

func inString(text ...int64) impl.Parser {
	return impl.Parser{State: 4, Text: text}
}

func inStringEnd(text ...int64) impl.Parser {
	return impl.Parser{State: 5, Text: text}
}

// edgeSigns are the runes at which one kind gives way to another, and what lies beside them; wide ones, ones without a width and the greatest one among them.
var edgeSigns = []int64{
	0, 1, 6, 7, 8, 9, 10, 13, 23, 24, 25, 26, 27, 28, 31, 32, 33, 47, 48, 49, 53, 57, 58, 59, 60, 62, 63, 64, 65, 72, 90, 91, 92, 93, 94, 104, 109, 125, 126,
	127, 128, 155, 159, 160, 233, 767, 768, 769, 879, 880, 4351, 4352, 4447, 4448, 12287, 12288, 19968, 55295, 57344, 65533, 127743, 127744, 128512, 131071, 131072, 1114110, 1114111,
}

// fewSigns are one of each kind that a parser knows.
var fewSigns = []int64{7, 10, 24, 27, 32, 48, 57, 59, 63, 64, 91, 92, 93, 127, 128, 19968}

// rising gives as many runes, each another one.
func rising(n int) []int64 {
	var list []int64
	for i := range n {
		list = append(list, int64('A'+i))
	}
	return list
}

// rightParsers are some of each state, with lists that are empty, full and nearly so.
func rightParsers() []impl.Parser {
	all := []impl.Parser{inGround(), inEscape(), {State: 1, Params: []int64{}, Text: []int64{}}, {State: 2, Params: []int64{}, Text: []int64{}}}
	nines, mixed := slices.Repeat([]int64{9999}, 16), []int64{0, 1, 9, 10, 99, 100, 999, 1000, 9998, 9999, 5, 0, 7, 0, 0, 42}
	for _, mark := range []int64{0, 63} {
		for _, params := range [][]int64{nil, {}, {0}, {7}, {99}, {999}, {1000}, {9998}, {9999}, {0, 0}, {12, 0}, {0, 34}, {1, 2, 3}} {
			all = append(all, inList(mark, params...))
		}
		for n := 14; n <= 16; n++ {
			all = append(all, inList(mark, nines[:n]...), inList(mark, mixed[:n]...), inList(mark, make([]int64, n)...))
		}
	}
	for _, n := range []int{0, 1, 2, 38, 39, 40} {
		all = append(all, inString(rising(n)...), inStringEnd(rising(n)...))
	}
	signs := edgeSigns[:40]
	return append(all, inString(signs...), inStringEnd(signs...), inString(edgeSigns[40:]...), inStringEnd(edgeSigns[40:]...))
}

// farStates are none; some lie within where only their lowest bits are read.
var farStates = []int64{
	0, -1, -2, -5, 6, 7, 8, 9, 16, 255, 256, 257, 260, 1 << 16, 1<<16 + 3, 1 << 31, 1 << 32, 1<<32 + 1, 1<<32 + 5, 1 << 62,
	-255, -1<<32 + 1, -1<<32 + 3, math.MaxInt64, math.MaxInt64 - 1, math.MinInt64, math.MinInt64 + 1, math.MinInt64 + 3,
}

var wrongMarks = []int64{-1, -63, 1, 2, 59, 62, 64, 126, 127, 255, 256, 256 + 63, 1<<32 + 63, 1 << 32, -1<<32 + 63, math.MinInt64, math.MinInt64 + 63, math.MaxInt64}

var wrongParams = []int64{-1, -2, -9999, -10000, 10000, 10001, 65536, 1 << 31, 1 << 32, 1<<32 + 5, 1 << 62, math.MaxInt64, math.MinInt64, math.MinInt64 + 5}

// wrongParsers are each wrong by one thing; all else is right.
func wrongParsers() []impl.Parser {
	all := []impl.Parser{{}}
	for _, state := range farStates {
		all = append(all, impl.Parser{State: state}, impl.Parser{State: state, Params: []int64{1}, Mark: 63}, impl.Parser{State: state, Text: []int64{65}})
	}
	for _, state := range []int64{1, 2, 4, 5} {
		all = append(all, impl.Parser{State: state, Params: []int64{0}}, impl.Parser{State: state, Params: []int64{1, 2}}, impl.Parser{State: state, Mark: 63})
	}
	for _, state := range []int64{1, 2, 3} {
		all = append(all, impl.Parser{State: state, Text: []int64{65}}, impl.Parser{State: state, Text: []int64{0}}, impl.Parser{State: state, Text: rising(40)})
	}
	for _, mark := range wrongMarks {
		all = append(all, inList(mark), inList(mark, 1), impl.Parser{State: 1, Mark: mark}, impl.Parser{State: 4, Mark: mark, Text: []int64{65}})
	}
	for _, n := range []int{17, 18, 32, 256, 272, 1 << 16, 1<<16 + 3} {
		all = append(all, inList(0, make([]int64, n)...), inList(63, make([]int64, n)...))
	}
	for _, param := range wrongParams {
		for n := 1; n <= 16; n += 5 {
			for at := range n {
				params := make([]int64, n)
				params[at] = param
				all = append(all, inList(0, params...), inList(63, params...))
			}
		}
	}
	for _, n := range []int{41, 42, 80, 256, 296, 1 << 16, 1<<16 + 3} {
		all = append(all, inString(slices.Repeat([]int64{65}, n)...), inStringEnd(slices.Repeat([]int64{65}, n)...))
	}
	for _, r := range noRunes {
		for _, at := range []int{0, 1, 39} {
			text := rising(40)
			text[at] = r
			all = append(all, inString(text...), inStringEnd(text...), inString(text[:at+1]...), inStringEnd(text[:at+1]...))
		}
	}
	return all
}

func isRune(r int64) bool {
	return r >= 0 && r < 1<<21 && utf8.ValidRune(rune(r))
}

// parserOkOf is ParserOk by hand: what may stand in which state.
func parserOkOf(p impl.Parser) bool {
	right := p.State > 0 && p.State < 6 && len(p.Params) < 17 && len(p.Text) < 41 && (p.Mark == 0 || p.Mark == 63)
	for _, param := range p.Params {
		right = right && param >= 0 && param < 10000
	}
	for _, r := range p.Text {
		right = right && isRune(r)
	}
	if len(p.Params) > 0 || p.Mark != 0 {
		right = right && p.State == 3
	}
	if len(p.Text) > 0 {
		right = right && (p.State == 4 || p.State == 5)
	}
	return right
}

// stepOf is Step by hand, state by state.
func stepOf(p impl.Parser, r int64) (impl.Parser, []impl.Action) {
	if !parserOkOf(p) || !isRune(r) {
		return impl.Parser{}, nil
	}
	if p.State < 4 {
		switch {
		case r == 27:
			return inEscape(), nil
		case r == 24, r == 26:
			return inGround(), nil
		case r < 32, r == 127:
			return p, []impl.Action{controlled(r)}
		}
	}
	switch p.State {
	case 1:
		if widthOf(r) > 0 {
			return p, []impl.Action{printed(r)}
		}
		return p, nil
	case 2:
		return escapeOf(r)
	case 3:
		return listOf(p, r)
	case 4:
		return stringOf(p, r)
	}
	if r == 92 {
		return inGround(), []impl.Action{titled(p.Text...)}
	}
	return inGround(), nil
}

func escapeOf(r int64) (impl.Parser, []impl.Action) {
	switch {
	case r == 91:
		return inList(0), nil
	case r == 93:
		return inString(), nil
	case r > 47 && r < 127:
		return inGround(), []impl.Action{escaped(r)}
	}
	return inGround(), nil
}

func listOf(p impl.Parser, r int64) (impl.Parser, []impl.Action) {
	params := slices.Clone(p.Params)
	if (r > 47 && r < 58 || r == 59) && len(params) == 0 {
		params = []int64{0}
	}
	last := len(params) - 1
	switch {
	case r == 63 && p.Mark == 0 && len(params) == 0:
		return inList(63), nil
	case r > 47 && r < 58:
		params[last] = params[last]*10 + r - 48
		if params[last] > 9999 {
			params[last] = 9999
		}
		return inList(p.Mark, params...), nil
	case r == 59 && len(params) < 16:
		return inList(p.Mark, append(params, 0)...), nil
	case r == 59:
		return p, nil
	case r > 63 && r < 127:
		return inGround(), []impl.Action{listed(r, p.Mark, params...)}
	}
	return inGround(), nil
}

func stringOf(p impl.Parser, r int64) (impl.Parser, []impl.Action) {
	switch {
	case r == 7:
		return inGround(), []impl.Action{titled(p.Text...)}
	case r == 27:
		return inStringEnd(p.Text...), nil
	case len(p.Text) < 40:
		return inString(append(slices.Clone(p.Text), r)...), nil
	}
	return p, nil
}

// parsedOf is Parsed by hand.
func parsedOf(p impl.Parser, list []int64) (impl.Parser, []impl.Action) {
	right := parserOkOf(p) && len(list) < 2001
	for _, r := range list {
		right = right && isRune(r)
	}
	if !right {
		return impl.Parser{}, nil
	}
	var told []impl.Action
	for _, r := range list {
		next, more := stepOf(p, r)
		p, told = next, append(told, more...)
	}
	return p, told
}

func sameParser(a impl.Parser, b impl.Parser) bool {
	return a.State == b.State && a.Mark == b.Mark && slices.Equal(a.Params, b.Params) && slices.Equal(a.Text, b.Text)
}

func sameAction(a impl.Action, b impl.Action) bool {
	return a.Kind == b.Kind && a.Rune == b.Rune && a.Mark == b.Mark && slices.Equal(a.Params, b.Params) && slices.Equal(a.Text, b.Text)
}

func sameActions(a []impl.Action, b []impl.Action) bool {
	return slices.EqualFunc(a, b, sameAction)
}

// actionOkOf tells whether an action is of one kind, with what belongs to it and nothing else.
func actionOkOf(a impl.Action) bool {
	params := len(a.Params) < 17 && (a.Mark == 0 || a.Mark == 63) && !slices.ContainsFunc(a.Params, func(n int64) bool { return n < 0 || n > 9999 })
	text := len(a.Text) < 41 && !slices.ContainsFunc(a.Text, func(r int64) bool { return !isRune(r) })
	if a.Kind != 4 {
		params = len(a.Params) == 0 && a.Mark == 0
	}
	if a.Kind != 5 {
		text = len(a.Text) == 0
	}
	right := map[int64]bool{1: widthOf(a.Rune) > 0, 2: a.Rune >= 0 && a.Rune < 32 || a.Rune == 127, 3: a.Rune > 47 && a.Rune < 127, 4: a.Rune > 63 && a.Rune < 127, 5: a.Rune == 0}
	return params && text && right[a.Kind]
}

// checkParsedTo holds what came of a parser against what should have come.
func checkParsedTo(t *testing.T, p impl.Parser, list []int64, got impl.Parser, told []impl.Action, want impl.Parser, wants []impl.Action) {
	t.Helper()
	if !sameParser(got, want) || !sameActions(told, wants) {
		t.Fatalf("%v by %v: %v and %v, not %v and %v", p, list, got, told, want, wants)
	}
	if want.State > 0 && !impl.ParserOk(got) || slices.ContainsFunc(told, func(a impl.Action) bool { return !actionOkOf(a) }) {
		t.Fatalf("%v by %v: %v and %v are wrong", p, list, got, told)
	}
}

func checkStep(t *testing.T, p impl.Parser, r int64) {
	t.Helper()
	got, told := impl.Step(p, r)
	want, wants := stepOf(p, r)
	checkParsedTo(t, p, []int64{r}, got, told, want, wants)
}

func checkParsed(t *testing.T, p impl.Parser, list []int64) {
	t.Helper()
	got, told := impl.Parsed(p, list)
	want, wants := parsedOf(p, list)
	checkParsedTo(t, p, list, got, told, want, wants)
}

// someSigns are as many runes of each kind, in no order; whole signs among them, so that each state is come to.
func someSigns(count int, next func(int) int) []int64 {
	pieces := []string{
		"\x1b[", "\x1b[?", "\x1b]", "\x1b", "\x1b\\", "\x07", "\x18", "\x1a", ";", "12", "9999", "0", "m", "H", "?", "h", "\n", "\x7f", "a", "\xe4\xb8\x80", "\xcc\x81",
		"\x1b[31;1m", "\x1b[?25;7l", "\x1b]title\x07", "\x1b]title\x1b\\", "\x1b[;;;;;;;;;;;;;;", strings.Repeat("t", 30), "\x1bM",
	}
	var list []int64
	for len(list) < count {
		if next(4) == 0 {
			list = append(list, edgeSigns[next(len(edgeSigns))])
			continue
		}
		list = append(list, runesOf(pieces[next(len(pieces))])...)
	}
	return list[:count]
}

func TestParserConstants(t *testing.T) {
	states := [5]int64{impl.PaGround, impl.PaEscape, impl.PaList, impl.PaString, impl.PaStringEnd}
	kinds := [5]int64{impl.AcPrint, impl.AcControl, impl.AcEscape, impl.AcList, impl.AcTitle}
	if states != [5]int64{1, 2, 3, 4, 5} || kinds != [5]int64{1, 2, 3, 4, 5} || impl.MaxTitle != 40 {
		t.Error(states, kinds, impl.MaxTitle)
	}
}

func TestParserOkOfRightOnes(t *testing.T) {
	for _, p := range rightParsers() {
		if !impl.ParserOk(p) || !parserOkOf(p) {
			t.Error(p)
		}
	}
	for param := int64(0); param <= 9999; param++ {
		if !impl.ParserOk(inList(0, param)) || !impl.ParserOk(inList(63, 9999, param)) {
			t.Error(param)
		}
	}
	for _, r := range edgeSigns {
		if !impl.ParserOk(inString(r)) || !impl.ParserOk(inStringEnd(65, r)) {
			t.Error(r)
		}
	}
}

func TestParserOkOfWrongOnes(t *testing.T) {
	for _, p := range wrongParsers() {
		if impl.ParserOk(p) || parserOkOf(p) {
			t.Error(p)
		}
	}
}

func TestParserOkOfWhatMayStandInEachState(t *testing.T) {
	for state := int64(-1); state <= 7; state++ {
		for _, mark := range append([]int64{0, 63}, wrongMarks...) {
			for _, params := range [][]int64{nil, {}, {0}, {9999}, {10000}, {-1}, {3, 4}, make([]int64, 15), make([]int64, 16), make([]int64, 17)} {
				for _, text := range [][]int64{nil, {}, {0}, {27}, {-1}, {55296}, {65, 66}, rising(39), rising(40), rising(41)} {
					p := impl.Parser{State: state, Params: params, Mark: mark, Text: text}
					if got := impl.ParserOk(p); got != parserOkOf(p) {
						t.Fatal(p, got)
					}
				}
			}
		}
	}
}

// Each of the named runes in each state, by hand: to what it leads, and what it tells.
func TestStepOfEachNamedRuneInEachState(t *testing.T) {
	list, text := inList(63, 5, 12), []int64{65, 66}
	shut := func(r int64) []int64 { return []int64{65, 66, r} }
	for _, r := range []int64{7, 10, 24, 26, 27, 31, 32, 47, 48, 57, 58, 59, 60, 63, 64, 91, 92, 93, 126, 127, 128, 768, 19968, 128512, 1114111} {
		ground, escape, inner, stringy, end := inGround(), inGround(), inGround(), inString(shut(r)...), inGround()
		var atGround, atEscape, atList, atString, atEnd []impl.Action
		switch r {
		case 7, 10, 31, 127:
			escape, inner = inEscape(), list
			atGround, atEscape, atList = []impl.Action{controlled(r)}, []impl.Action{controlled(r)}, []impl.Action{controlled(r)}
		case 24, 26, 128, 768:
		case 27:
			ground, escape, inner, stringy = inEscape(), inEscape(), inEscape(), inStringEnd(text...)
		default:
			atGround = []impl.Action{printed(r)}
		}
		switch r {
		case 7:
			stringy, atString = inGround(), []impl.Action{titled(text...)}
		case 48, 57:
			inner = inList(63, 5, 120+r-48)
		case 59:
			inner = inList(63, 5, 12, 0)
		case 91:
			escape = inList(0)
		case 93:
			escape = inString()
		case 92:
			atEnd = []impl.Action{titled(text...)}
		}
		switch r {
		case 48, 57, 58, 59, 60, 63, 64, 92, 126:
			atEscape = []impl.Action{escaped(r)}
		}
		switch r {
		case 64, 91, 92, 93, 126:
			atList = []impl.Action{listed(r, 63, 5, 12)}
		}
		for _, c := range []struct {
			from impl.Parser
			to   impl.Parser
			told []impl.Action
		}{
			{inGround(), ground, atGround}, {inEscape(), escape, atEscape}, {list, inner, atList},
			{inString(text...), stringy, atString}, {inStringEnd(text...), end, atEnd},
		} {
			got, told := impl.Step(c.from, r)
			checkParsedTo(t, c.from, []int64{r}, got, told, c.to, c.told)
		}
	}
}

func TestStepOfEachParserAndEachRune(t *testing.T) {
	for _, p := range rightParsers() {
		for r := int64(-3); r <= 1200; r++ {
			checkStep(t, p, r)
		}
		for _, r := range slices.Concat(edgeSigns, noRunes) {
			checkStep(t, p, r)
		}
	}
}

func TestStepOfEachRuneOfAll(t *testing.T) {
	for _, p := range []impl.Parser{inGround(), inEscape(), inList(63, 5), inString(65), inStringEnd(65)} {
		for r := int64(-100); r <= 1114200; r++ {
			checkStep(t, p, r)
		}
	}
}

func TestParsedOfSome(t *testing.T) {
	for _, c := range []struct {
		text string
		to   impl.Parser
		told []impl.Action
	}{
		{"", inGround(), nil},
		{"a\xe4\xb8\x80\xcc\x81b", inGround(), []impl.Action{printed(97), printed(19968), printed(98)}},
		{"\r\n\x7f\x00", inGround(), []impl.Action{controlled(13), controlled(10), controlled(127), controlled(0)}},
		{"\xc2\x80\xc2\x9f\xc2\xa0", inGround(), []impl.Action{printed(160)}},
		{"\x1bD\x1bc\x1b7a", inGround(), []impl.Action{escaped(68), escaped(99), escaped(55), printed(97)}},
		{"\x1b", inEscape(), nil},
		{"\x1b\x1b\x1b", inEscape(), nil},
		{"\x1b\x1bM", inGround(), []impl.Action{escaped(77)}},
		{"\x1b a", inGround(), []impl.Action{printed(97)}},
		{"\x1b\xe4\xb8\x80a", inGround(), []impl.Action{printed(97)}},
		{"\x1b\n\x7fD", inGround(), []impl.Action{controlled(10), controlled(127), escaped(68)}},
		{"\x1b\x18D\x1b\x1aD", inGround(), []impl.Action{printed(68), printed(68)}},
		{"\x1b[", inList(0), nil},
		{"\x1b[m", inGround(), []impl.Action{listed(109, 0)}},
		{"\x1b[0m", inGround(), []impl.Action{listed(109, 0, 0)}},
		{"\x1b[31;1m", inGround(), []impl.Action{listed(109, 0, 31, 1)}},
		{"\x1b[;m", inGround(), []impl.Action{listed(109, 0, 0, 0)}},
		{"\x1b[;5m", inGround(), []impl.Action{listed(109, 0, 0, 5)}},
		{"\x1b[5;m", inGround(), []impl.Action{listed(109, 0, 5, 0)}},
		{"\x1b[;;7;H", inGround(), []impl.Action{listed(72, 0, 0, 0, 7, 0)}},
		{"\x1b[007;010H", inGround(), []impl.Action{listed(72, 0, 7, 10)}},
		{"\x1b[1\n;\x7f2\x07H", inGround(), []impl.Action{controlled(10), controlled(127), controlled(7), listed(72, 0, 1, 2)}},
		{"\x1b[1 mx", inGround(), []impl.Action{printed(109), printed(120)}},
		{"\x1b[1:2mx", inGround(), []impl.Action{printed(50), printed(109), printed(120)}},
		{"\x1b[>1m", inGround(), []impl.Action{printed(49), printed(109)}},
		{"\x1b[1\xcc\x81m", inGround(), []impl.Action{printed(109)}},
		{"\x1b[1\xe4\xb8\x80m", inGround(), []impl.Action{printed(109)}},
		{"\x1b[1\x18m\x1b[2\x1am", inGround(), []impl.Action{printed(109), printed(109)}},
		{"\x1b[?1\x1b", inEscape(), nil},
		{"\x1b[?1\x1b[m", inGround(), []impl.Action{listed(109, 0)}},
		{"\x1b[[a", inGround(), []impl.Action{listed(91, 0), printed(97)}},
		{"\x1b[1]a", inGround(), []impl.Action{listed(93, 0, 1), printed(97)}},
		{"\x1b[@\x1b[~", inGround(), []impl.Action{listed(64, 0), listed(126, 0)}},
		{"\x1b]", inString(), nil},
		{"\x1b]\x07", inGround(), []impl.Action{titled()}},
		{"\x1b]\x1b\\", inGround(), []impl.Action{titled()}},
		{"\x1b]a b\xe4\xb8\x80\x07c", inGround(), []impl.Action{titled(97, 32, 98, 19968), printed(99)}},
		{"\x1b]a\x18\x1a\n\x7f\x00\xcc\x81\x07", inGround(), []impl.Action{titled(97, 24, 26, 10, 127, 0, 769)}},
		{"\x1b]a[1m]\x07", inGround(), []impl.Action{titled(97, 91, 49, 109, 93)}},
		{"\x1b]a\\b\x1b\\", inGround(), []impl.Action{titled(97, 92, 98)}},
		{"\x1b]a\x1bbc", inGround(), []impl.Action{printed(99)}},
		{"\x1b]a\x1b\x1bbc", inGround(), []impl.Action{printed(98), printed(99)}},
		{"\x1b]a\x1b\x07b", inGround(), []impl.Action{printed(98)}},
		{"\x1b]a\x1b[1mb", inGround(), []impl.Action{printed(49), printed(109), printed(98)}},
		{"\x1b]a\x1b", inStringEnd(97), nil},
		{"\x1b]ab", inString(97, 98), nil},
		{"\x1b]a\x1bb\x1b]c\x07", inGround(), []impl.Action{titled(99)}},
		{"\x1b\\a\x07", inGround(), []impl.Action{escaped(92), printed(97), controlled(7)}},
	} {
		list := runesOf(c.text)
		got, told := impl.Parsed(inGround(), list)
		checkParsedTo(t, inGround(), list, got, told, c.to, c.told)
	}
}

func TestAMarkIsOneOnlyAsTheFirst(t *testing.T) {
	for _, c := range []struct {
		text string
		told []impl.Action
	}{
		{"?h", []impl.Action{listed(104, 63)}},
		{"?0h", []impl.Action{listed(104, 63, 0)}},
		{"?25;7h", []impl.Action{listed(104, 63, 25, 7)}},
		{"?;h", []impl.Action{listed(104, 63, 0, 0)}},
		{"\n?h", []impl.Action{controlled(10), listed(104, 63)}},
		{"?\n1h", []impl.Action{controlled(10), listed(104, 63, 1)}},
		{"??h", []impl.Action{printed(104)}},
		{"?1?h", []impl.Action{printed(104)}},
		{"?;?h", []impl.Action{printed(104)}},
		{"1?h", []impl.Action{printed(104)}},
		{"0?h", []impl.Action{printed(104)}},
		{";?h", []impl.Action{printed(104)}},
		{"1;?h", []impl.Action{printed(104)}},
		{">h", []impl.Action{printed(104)}},
		{"=h", []impl.Action{printed(104)}},
		{"<h", []impl.Action{printed(104)}},
		{"?\x18h", []impl.Action{printed(104)}},
		{"?1\x1b[h", []impl.Action{listed(104, 0)}},
		{"?h\x1b[h", []impl.Action{listed(104, 63), listed(104, 0)}},
	} {
		list := runesOf("\x1b[" + c.text)
		got, told := impl.Parsed(inGround(), list)
		checkParsedTo(t, inGround(), list, got, told, inGround(), c.told)
	}
}

func TestDigitsUpToTheGreatestParam(t *testing.T) {
	for _, c := range []struct {
		digits string
		want   int64
	}{
		{"0", 0}, {"00", 0}, {"0000000000", 0}, {"1", 1}, {"9", 9}, {"10", 10}, {"099", 99}, {"123", 123}, {"999", 999}, {"1000", 1000},
		{"9990", 9990}, {"9998", 9998}, {"9999", 9999}, {"10000", 9999}, {"99990", 9999}, {"99999", 9999}, {"12345", 9999}, {"65536", 9999},
		{"000012", 12}, {"0000012345", 9999}, {"4294967297", 9999}, {"9223372036854775808", 9999}, {"18446744073709551617", 9999}, {strings.Repeat("9", 500), 9999}, {strings.Repeat("0", 500) + "7", 7},
	} {
		for _, ahead := range [][]int64{nil, {0}, {1, 9999}, make([]int64, 14), make([]int64, 15)} {
			p, want := inList(63, ahead...), inList(63, append(slices.Clone(ahead), c.want)...)
			if len(ahead) > 0 {
				p.Params = append(slices.Clone(ahead), 0)
			}
			list := runesOf(c.digits)
			got, told := impl.Parsed(p, list)
			checkParsedTo(t, p, list, got, told, want, nil)
		}
	}
	for last := int64(0); last <= 9999; last++ {
		for digit := int64(0); digit <= 9; digit++ {
			got, _ := impl.Step(inList(0, 3, last), 48+digit)
			if want := min(10*last+digit, 9999); !sameParser(got, inList(0, 3, want)) {
				t.Fatalf("%d by %d: %v", last, digit, got)
			}
		}
	}
}

func TestParamsUpToTheMostOfThem(t *testing.T) {
	for n := range 60 {
		list := slices.Repeat([]int64{59}, n)
		want := inList(0)
		if n > 0 {
			want = inList(0, make([]int64, min(n+1, 16))...)
		}
		got, told := impl.Parsed(inList(0), list)
		checkParsedTo(t, inList(0), list, got, told, want, nil)
	}
	for n := range 17 {
		p := inList(63, rising(n)...)
		want := inList(63, append(rising(n), 0)...)
		switch n {
		case 0:
			want = inList(63, 0, 0)
		case 16:
			want = p
		}
		got, told := impl.Step(p, 59)
		checkParsedTo(t, p, []int64{59}, got, told, want, nil)
	}
}

// What stands behind a 59 that brought nothing belongs to the last of Params.
func TestDigitsBehindTheMostParams(t *testing.T) {
	list := runesOf("1;2;3;4;5;6;7;8;9;10;11;12;13;14;15;16;17;8m")
	got, told := impl.Parsed(inList(0), list)
	want := []impl.Action{listed(109, 0, 1, 2, 3, 4, 5, 6, 7, 8, 9, 10, 11, 12, 13, 14, 15, 9999)}
	checkParsedTo(t, inList(0), list, got, told, inGround(), want)
	list = runesOf("1;2;3;4;5;6;7;8;9;10;11;12;13;14;15;;;7m")
	want[0].Params[15] = 7
	got, told = impl.Parsed(inList(0), list)
	checkParsedTo(t, inList(0), list, got, told, inGround(), want)
}

func TestATitleUpToItsMostRunes(t *testing.T) {
	for _, n := range []int{0, 1, 2, 38, 39, 40, 41, 42, 43, 80, 81, 256, 300, 1500} {
		text := rising(n)
		held := text[:min(n, 40)]
		open := slices.Concat([]int64{27, 93}, text)
		got, told := impl.Parsed(inGround(), open)
		checkParsedTo(t, inGround(), open, got, told, inString(held...), nil)
		for _, end := range [][]int64{{7}, {27, 92}} {
			list := slices.Concat(open, end, []int64{97})
			got, told := impl.Parsed(inGround(), list)
			checkParsedTo(t, inGround(), list, got, told, inGround(), []impl.Action{titled(held...), printed(97)})
		}
		list := slices.Concat(open, []int64{27})
		got, told = impl.Parsed(inGround(), list)
		checkParsedTo(t, inGround(), list, got, told, inStringEnd(held...), nil)
	}
}

func TestAnEscapeInAString(t *testing.T) {
	for _, text := range [][]int64{nil, {65}, {27, 7}, rising(39), rising(40)} {
		for _, r := range edgeSigns {
			var told []impl.Action
			if r == 92 {
				told = []impl.Action{titled(text...)}
			}
			got, tells := impl.Step(inStringEnd(text...), r)
			checkParsedTo(t, inStringEnd(text...), []int64{r}, got, tells, inGround(), told)
			list := []int64{27, r, 98}
			got, tells = impl.Parsed(inString(text...), list)
			checkParsedTo(t, inString(text...), list, got, tells, inGround(), append(told, printed(98)))
		}
	}
}

// eachFewSigns gives all lists of at most most of fewSigns.
func eachFewSigns(list []int64, most int, yield func([]int64)) {
	yield(list)
	if most == 0 {
		return
	}
	for _, r := range fewSigns {
		eachFewSigns(append(slices.Clone(list), r), most-1, yield)
	}
}

func TestParsedOfEachFewSigns(t *testing.T) {
	for _, p := range rightParsers() {
		eachFewSigns(nil, 2, func(list []int64) { checkParsed(t, p, list) })
	}
	for _, p := range []impl.Parser{inGround(), inEscape(), inList(0), inString(), inStringEnd(65)} {
		eachFewSigns(nil, 4, func(list []int64) { checkParsed(t, p, list) })
	}
}

func TestParsedOfLongLists(t *testing.T) {
	next, parsers := numbersFrom(6), rightParsers()
	met := map[int64]int{}
	for range 3000 {
		p, list := parsers[next(len(parsers))], someSigns(next(200), next)
		checkParsed(t, p, list)
		got, _ := impl.Parsed(p, list)
		met[got.State]++
	}
	for state := int64(1); state <= 5; state++ {
		if met[state] < 50 {
			t.Error(state, met)
		}
	}
}

// Whatever rune comes to a right parser, it stays right; an answer is the next one's argument.
func TestAParserStaysRight(t *testing.T) {
	next := numbersFrom(66)
	for _, p := range rightParsers() {
		for _, r := range someSigns(2000, next) {
			if next(5) == 0 {
				r = int64(next(1114112))
			}
			was := p
			p, _ = impl.Step(p, r)
			if isRune(r) && (!impl.ParserOk(p) || !parserOkOf(p)) {
				t.Fatalf("%v by %d: %v", was, r, p)
			}
			if !isRune(r) {
				p = was
			}
		}
	}
}

// checkParts holds a list that is parsed at once against its parts, cut at those places, one behind the other.
func checkParts(t *testing.T, p impl.Parser, list []int64, cuts ...int) {
	t.Helper()
	whole, told := impl.Parsed(p, list)
	part, from, tells := p, 0, []impl.Action{}
	for _, to := range append(cuts, len(list)) {
		var more []impl.Action
		part, more = impl.Parsed(part, list[from:to])
		from, tells = to, append(tells, more...)
	}
	checkParsedTo(t, p, list, part, tells, whole, told)
}

func TestAListIsParsedAsItsParts(t *testing.T) {
	next := numbersFrom(67)
	for _, p := range rightParsers() {
		for range 10 {
			list := someSigns(next(60), next)
			for one := range len(list) + 1 {
				checkParts(t, p, list, one)
				checkParts(t, p, list, one, one+next(len(list)-one+1))
			}
		}
	}
	for _, p := range []impl.Parser{inGround(), inEscape(), inList(63), inString(), inStringEnd(65)} {
		eachFewSigns(nil, 3, func(list []int64) {
			for one := range len(list) + 1 {
				for two := one; two <= len(list); two++ {
					checkParts(t, p, list, one, two)
				}
			}
		})
	}
}

func TestAListIsParsedAsItsRunesOneByOne(t *testing.T) {
	next := numbersFrom(68)
	for _, p := range rightParsers() {
		list := someSigns(300, next)
		whole, told := impl.Parsed(p, list)
		step, tells := p, []impl.Action{}
		for _, r := range list {
			var more []impl.Action
			step, more = impl.Step(step, r)
			if len(more) > 1 {
				t.Fatalf("%d tells %v", r, more)
			}
			tells = append(tells, more...)
		}
		checkParsedTo(t, p, list, step, tells, whole, told)
	}
}

func TestParsedOfNoRunesIsTheParserItself(t *testing.T) {
	for _, p := range rightParsers() {
		for _, list := range [][]int64{nil, {}} {
			got, told := impl.Parsed(p, list)
			checkParsedTo(t, p, list, got, told, p, nil)
		}
	}
}

func TestParsedAtTheLimitOfRunes(t *testing.T) {
	next := numbersFrom(69)
	for _, n := range []int{0, 1, 1999, 2000, 2001, 2002, 4000, 4096, 65536, 65537, 100000} {
		for _, p := range []impl.Parser{inGround(), inEscape(), inList(63, 4), inString(65), inStringEnd(65)} {
			checkParsed(t, p, someSigns(n, next))
			list := slices.Repeat([]int64{97}, n)
			got, told := impl.Parsed(p, list)
			if n > 2000 && (!sameParser(got, impl.Parser{}) || len(told) > 0) {
				t.Errorf("%d runes: %v and %d", n, got, len(told))
			}
			if n <= 2000 && (got.State == 0 || p.State == 1 && len(told) != n) {
				t.Errorf("%d runes: %v and %d", n, got, len(told))
			}
		}
	}
}

func TestNothingIsParsedOfWhatIsNoRune(t *testing.T) {
	for _, p := range rightParsers() {
		for _, r := range noRunes {
			got, told := impl.Step(p, r)
			checkParsedTo(t, p, []int64{r}, got, told, impl.Parser{}, nil)
			for at := range 4 {
				list := []int64{97, 10, 27, 77}
				list[at] = r
				got, told := impl.Parsed(p, list)
				checkParsedTo(t, p, list, got, told, impl.Parser{}, nil)
			}
		}
	}
	for _, at := range []int{0, 1, 1000, 1998, 1999} {
		list := slices.Repeat([]int64{97}, 2000)
		list[at] = -1
		got, told := impl.Parsed(inGround(), list)
		if !sameParser(got, impl.Parser{}) || len(told) > 0 {
			t.Errorf("at %d: %v and %d", at, got, len(told))
		}
	}
}

func TestNothingIsParsedByAWrongParser(t *testing.T) {
	for _, p := range wrongParsers() {
		for _, r := range slices.Concat(fewSigns, noRunes) {
			got, told := impl.Step(p, r)
			checkParsedTo(t, p, []int64{r}, got, told, impl.Parser{}, nil)
		}
		for _, list := range [][]int64{nil, {}, {97}, {27, 77}, {24, 97, 97}, {27, 91, 109}, {27, 92, 97}, {-1}} {
			got, told := impl.Parsed(p, list)
			checkParsedTo(t, p, list, got, told, impl.Parser{}, nil)
		}
	}
}

// A parse is what Step or Parsed answers, together.
type parse struct {
	parser impl.Parser
	told   []impl.Action
}

// lists are all lists of numbers that can be reached through a parse, each with the room behind it.
func (p parse) lists() [][]int64 {
	lists := [][]int64{p.parser.Params, p.parser.Text}
	for _, a := range p.told {
		lists = append(lists, a.Params, a.Text)
	}
	for i, list := range lists {
		lists[i] = list[:cap(list)]
	}
	return lists
}

func sameParse(a parse, b parse) bool {
	return sameParser(a.parser, b.parser) && sameActions(a.told, b.told)
}

// roomyParsers have their lists within longer ones, with numbers ahead and behind; one list is in two of them.
func roomyParsers() (parsers []impl.Parser, rooms [][]int64) {
	params := []int64{-1, 5, 12, 0, 7, -2, -3, -4}
	full := append(slices.Repeat([]int64{9}, 17), -2, -3)
	text := []int64{-1, 65, 66, 67, -2, -3, -4}
	long := append(slices.Repeat([]int64{65}, 41), -2, -3)
	return []impl.Parser{
		{State: 1, Params: params[:0], Text: text[:0]}, {State: 2, Params: params[1:1], Text: text[1:1]},
		{State: 3, Params: params[1:5], Text: text[:0]}, {State: 3, Params: params[1:1], Mark: 63}, {State: 3, Params: full[1:17]}, {State: 3, Params: full[1:16]},
		{State: 4, Params: params[:0], Text: text[1:4]}, {State: 5, Text: text[1:4]}, {State: 4, Text: text[1:1]}, {State: 5, Text: text[1:1]},
		{State: 4, Text: long[1:41]}, {State: 5, Text: long[1:41]}, {State: 4, Text: long[1:40]},
		{State: 3, Params: []int64{10000}}, {State: 6, Params: params[1:5]},
	}, [][]int64{params, full, text, long}
}

// allParses are what comes of a parser by each function.
func allParses(p impl.Parser, lists [][]int64) []parse {
	var all []parse
	for _, r := range slices.Concat(fewSigns, []int64{-1}) {
		got, told := impl.Step(p, r)
		all = append(all, parse{got, told})
	}
	for _, list := range lists {
		got, told := impl.Parsed(p, list)
		all = append(all, parse{got, told})
	}
	return all
}

// roomyLists are lists to be parsed within longer ones; what they tell has many lists of its own.
func roomyLists() (lists [][]int64, rooms [][]int64) {
	for _, text := range []string{
		"", "5", ";", "5;6m", "b", "bc\x07", "\x1b", "\x1b\\a", "\x07\x1b[1;2m\x1b[3;4H\x1b[?5h\x1b]ab\x07\x1b]cd\x1b\\\x1b[6;7", "\x18\x1b]ab\x07\x1b]cd\x07\x1b[1m\x1b[2m\x1b]ef", "m\x1b[;;;m\x1b[;;;m\x1b[;;",
	} {
		room := slices.Concat([]int64{-5}, runesOf(text), []int64{-6, -7, -8})
		lists, rooms = append(lists, room[1:len(room)-3]), append(rooms, room)
	}
	return lists, rooms
}

func cloned(rooms [][]int64) [][]int64 {
	var made [][]int64
	for _, room := range rooms {
		made = append(made, slices.Clone(room))
	}
	return made
}

func TestParsersArgumentsStayAndAnswersAreNew(t *testing.T) {
	parsers, rooms := roomyParsers()
	lists, more := roomyLists()
	rooms = append(rooms, more...)
	before := cloned(rooms)
	stays := func() bool { return slices.EqualFunc(rooms, before, slices.Equal[[]int64]) }
	for _, p := range parsers {
		ahead, answers := allParses(p, lists), allParses(p, lists)
		if !stays() {
			t.Fatalf("%v: what was handed in was written into", p)
		}
		for i, answer := range answers {
			for _, list := range answer.lists() {
				for at := range list {
					list[at] = -9
				}
			}
			clear(answer.told[:cap(answer.told)])
			if !stays() {
				t.Fatalf("%v: answer %d shares with what was handed in", p, i)
			}
		}
		for i, answer := range allParses(p, lists) {
			if !sameParse(answer, ahead[i]) {
				t.Fatalf("%v: answer %d shares with another: %v, not %v", p, i, answer, ahead[i])
			}
		}
	}
}

func TestNoListOfAParseSharesWithAnother(t *testing.T) {
	parsers, _ := roomyParsers()
	lists, _ := roomyLists()
	for _, p := range parsers {
		for i, answer := range allParses(p, lists) {
			all := answer.lists()
			for one, list := range all {
				before := cloned(all)
				for at := range list {
					list[at] = -9 - int64(one)
				}
				copy(before[one], list)
				if !slices.EqualFunc(all, before, slices.Equal[[]int64]) {
					t.Fatalf("%v: answer %d: list %d shares with another one", p, i, one)
				}
			}
		}
	}
}

// A parser whose Text, and a list to be parsed, are one and the same memory.
func TestParsedOfItsOwnText(t *testing.T) {
	room := []int64{65, 66, 7, 67, -1}
	p := inString(room[:4]...)
	p.Text = room[:4]
	got, told := impl.Parsed(p, room[1:4])
	checkParsedTo(t, p, room[1:4], got, told, inGround(), []impl.Action{titled(65, 66, 7, 67, 66), printed(67)})
	if !slices.Equal(room, []int64{65, 66, 7, 67, -1}) {
		t.Error(room)
	}
}

// A function of this layer that panics, or doesn't end, on anything here fails by that.
func TestParsersAnswerAtEveryArgument(t *testing.T) {
	numbers := slices.Concat(edgeSigns, noRunes)
	for _, state := range append([]int64{1, 2, 3, 4, 5}, farStates...) {
		for _, p := range []impl.Parser{{State: state}, {State: state, Params: noRunes}, {State: state, Text: noRunes}, {State: state, Mark: math.MinInt64}, {State: state, Params: []int64{1, 2}, Mark: 63}, {State: state, Text: edgeSigns[:40]}} {
			for _, r := range numbers {
				checkStep(t, p, r)
			}
			checkParsed(t, p, numbers)
			checkParsed(t, p, edgeSigns)
			checkParsed(t, p, nil)
			checkParsed(t, p, slices.Repeat(numbers, 2000))
		}
	}
}

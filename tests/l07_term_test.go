package tests

import (
	"fmt"
	"slices"
	"strings"
	"testing"
	"unicode/utf8"

	"loop.example/g00215/impl"
)

// wideText is the bytes of one rune that is two cells wide.
const wideText = "\xe4\xb8\x80"

// A rest is what a Term holds beside its grids and its lists.
type rest struct {
	row, col, top, bottom, savedRow, savedCol int64
	style, savedStyle                         impl.Style
	full, wrap, away, hidden                  bool
	held                                      string
}

func restOf(t impl.Term) rest {
	return rest{t.Row, t.Col, t.Top, t.Bottom, t.SavedRow, t.SavedCol, t.Style, t.SavedStyle, t.Full, t.Wrap, t.Away, t.Hidden, t.Feeder.Held}
}

func sameTerm(a impl.Term, b impl.Term) bool {
	return restOf(a) == restOf(b) && sameGrid(a.Grid, b.Grid) && sameGrid(a.Other, b.Other) && slices.Equal(a.Title, b.Title) && sameParser(a.Parser, b.Parser)
}

// tellTerm is what is worth reading of a Term.
func tellTerm(t impl.Term) string {
	return fmt.Sprintf("%q and %q, %+v, title %v, %v", impl.GridText(t.Grid), impl.GridText(t.Other), restOf(t), t.Title, t.Parser)
}

func copyOfTerm(t impl.Term) impl.Term {
	t.Grid, t.Other, t.Title = copyOf(t.Grid), copyOf(t.Other), slices.Clone(t.Title)
	t.Parser.Params, t.Parser.Text = slices.Clone(t.Parser.Params), slices.Clone(t.Parser.Text)
	return t
}

// newOf is NewTerm by hand, of a size that is right.
func newOf(cols int64, rows int64) impl.Term {
	return impl.Term{Grid: blankGrid(cols, rows), Other: blankGrid(cols, rows), Bottom: rows - 1, Wrap: true, Parser: inGround()}
}

// termOkOf is TermOk by hand.
func termOkOf(t impl.Term) bool {
	rows, cols := int64(len(t.Grid.Rows)), t.Grid.Cols
	right := gridOkOf(t.Grid) && gridOkOf(t.Other) && t.Other.Cols == cols && int64(len(t.Other.Rows)) == rows
	for _, row := range []int64{t.Row, t.SavedRow, t.Top, t.Bottom} {
		right = right && row >= 0 && row < rows
	}
	for _, col := range []int64{t.Col, t.SavedCol} {
		right = right && col >= 0 && col < cols
	}
	for _, s := range []impl.Style{t.Style, t.SavedStyle} {
		right = right && s.Fore >= 0 && s.Fore < 9 && s.Back >= 0 && s.Back < 9
	}
	right = right && (rows == 1 || t.Bottom > t.Top) && (t.Col == cols-1 || !t.Full)
	right = right && len(t.Title) < 41 && !slices.ContainsFunc(t.Title, func(r int64) bool { return !isRune(r) })
	return right && parserOkOf(t.Parser) && !utf8.FullRuneInString(t.Feeder.Held)
}

// doneOf tells by hand whether anything may come of an action.
func doneOf(a impl.Action) bool {
	right := a.Kind > 0 && a.Kind < 6 && isRune(a.Rune) && len(a.Params) < 17 && len(a.Text) < 41 && (a.Mark == 0 || a.Mark == 63)
	right = right && !slices.ContainsFunc(a.Params, func(n int64) bool { return n < 0 || n > 9999 })
	return right && !slices.ContainsFunc(a.Text, func(r int64) bool { return !isRune(r) })
}

// endsFullOf tells by hand whether an action is one of those behind which Full is false, also where nothing else comes of it.
func endsFullOf(a impl.Action) bool {
	switch {
	case a.Kind == 2:
		return a.Rune > 7 && a.Rune < 14
	case a.Kind == 3:
		return strings.ContainsRune("DEM78c", rune(a.Rune))
	case a.Kind == 4 && a.Mark == 0:
		return strings.ContainsRune("ABCDGdHfJKLM@PXSTr", rune(a.Rune))
	}
	return false
}

// doOf is Do by hand.
func doOf(t impl.Term, a impl.Action) impl.Term {
	if !termOkOf(t) {
		return impl.Term{}
	}
	t = copyOfTerm(t)
	if !doneOf(a) {
		return t
	}
	full := t.Full && !endsFullOf(a)
	switch {
	case a.Kind == 1:
		return letterDone(t, a.Rune)
	case a.Kind == 2:
		t = controlDone(t, a.Rune)
	case a.Kind == 3:
		t = escapeDone(t, a.Rune)
	case a.Kind == 4 && a.Mark == 63:
		t = modesDone(t, a)
	case a.Kind == 4:
		t = listDone(t, a)
	case a.Kind == 5:
		t.Title = slices.Clone(a.Text)
	}
	t.Full = full
	return t
}

func onlyBack(t impl.Term) impl.Style {
	return impl.Style{Back: t.Style.Back}
}

func lineFed(t impl.Term) impl.Term {
	switch {
	case t.Row == t.Bottom:
		t.Grid = upOf(t.Grid, t.Top, t.Bottom, 1, onlyBack(t))
	case t.Row+1 < int64(len(t.Grid.Rows)):
		t.Row++
	}
	return t
}

func letterDone(t impl.Term, r int64) impl.Term {
	long, cols := widthOf(r), t.Grid.Cols
	if long == 0 || long > cols {
		return t
	}
	if t.Full && t.Wrap {
		t.Col = 0
		t = lineFed(t)
	}
	if t.Col+long > cols && t.Wrap {
		t.Col = 0
		t = lineFed(t)
	}
	for t.Col+long > cols {
		t.Col--
	}
	t.Grid.Rows[t.Row] = writtenOf(t.Grid.Rows[t.Row], t.Col, r, t.Style)
	t.Col += long
	t.Full = t.Col == cols
	if t.Full {
		t.Col = cols - 1
	}
	return t
}

func controlDone(t impl.Term, r int64) impl.Term {
	switch r {
	case 8:
		if t.Col > 0 {
			t.Col--
		}
	case 9:
		t.Col++
		for t.Col%8 != 0 {
			t.Col++
		}
		t.Col = min(t.Col, t.Grid.Cols-1)
	case 10, 11, 12:
		t = lineFed(t)
	case 13:
		t.Col = 0
	}
	return t
}

func escapeDone(t impl.Term, r int64) impl.Term {
	switch r {
	case 68:
		t = lineFed(t)
	case 69:
		t = lineFed(t)
		t.Col = 0
	case 77:
		if t.Row == t.Top {
			t.Grid = downOf(t.Grid, t.Top, t.Bottom, 1, onlyBack(t))
		} else if t.Row > 0 {
			t.Row--
		}
	case 55:
		t.SavedRow, t.SavedCol, t.SavedStyle = t.Row, t.Col, t.Style
	case 56:
		t.Row, t.Col, t.Style = t.SavedRow, t.SavedCol, t.SavedStyle
	case 99:
		fresh := newOf(t.Grid.Cols, int64(len(t.Grid.Rows)))
		fresh.Title, fresh.Parser, fresh.Feeder = t.Title, t.Parser, t.Feeder
		t = fresh
	}
	return t
}

func modesDone(t impl.Term, a impl.Action) impl.Term {
	set := a.Rune == 'h'
	if !set && a.Rune != 'l' {
		return t
	}
	for _, mode := range a.Params {
		switch {
		case mode == 7:
			t.Wrap = set
		case mode == 25:
			t.Hidden = !set
		case mode == 1049 && t.Away != set:
			t.Grid, t.Other, t.Away = t.Other, t.Grid, set
			if set {
				t.Grid = blankGrid(t.Grid.Cols, int64(len(t.Grid.Rows)))
			}
		}
	}
	return t
}

// given is number at of params, and other where there is none, or it is 0.
func given(params []int64, at int, other int64) int64 {
	if len(params) <= at || params[at] == 0 {
		return other
	}
	return params[at]
}

func listDone(t impl.Term, a impl.Action) impl.Term {
	n, m := given(a.Params, 0, 1), given(a.Params, 1, 1)
	rows, cols := int64(len(t.Grid.Rows)), t.Grid.Cols
	row, here := t.Grid.Rows[t.Row], t.Row*cols+t.Col
	inside := t.Row >= t.Top && t.Row <= t.Bottom
	switch a.Rune {
	case 'A':
		for from := t.Row; n > 0 && t.Row > 0 && (t.Row != t.Top || from < t.Top); n-- {
			t.Row--
		}
	case 'B':
		for from := t.Row; n > 0 && t.Row < rows-1 && (t.Row != t.Bottom || from > t.Bottom); n-- {
			t.Row++
		}
	case 'C':
		t.Col = min(t.Col+n, cols-1)
	case 'D':
		t.Col = max(t.Col-n, 0)
	case 'G':
		t.Col = min(n, cols) - 1
	case 'd':
		t.Row = min(n, rows) - 1
	case 'H', 'f':
		t.Row, t.Col = min(n, rows)-1, min(m, cols)-1
	case 'J':
		t = partCleared(t, a.Params, here, 0, rows*cols)
	case 'K':
		t = partCleared(t, a.Params, here, t.Row*cols, t.Row*cols+cols)
	case 'L', 'M':
		if inside {
			t.Grid = scrolledBy(a.Rune == 'M')(t.Grid, t.Row, t.Bottom, min(n, 999), onlyBack(t))
			t.Col = 0
		}
	case '@':
		t.Grid.Rows[t.Row] = pushedOf(row, t.Col, min(n, cols-t.Col), onlyBack(t))
	case 'P':
		t.Grid.Rows[t.Row] = pulledOf(row, t.Col, min(n, cols-t.Col), onlyBack(t))
	case 'X':
		t.Grid.Rows[t.Row] = clearedOf(row, t.Col, min(t.Col+n, cols), onlyBack(t))
	case 'S', 'T':
		t.Grid = scrolledBy(a.Rune == 'S')(t.Grid, t.Top, t.Bottom, min(n, 999), onlyBack(t))
	case 'm':
		t.Style = styledBy(t.Style, a.Params)
	case 'r':
		if m = given(a.Params, 1, rows); n < m && m <= rows {
			t.Top, t.Bottom, t.Row, t.Col = n-1, m-1, 0, 0
		}
	}
	return t
}

func scrolledBy(up bool) func(impl.Grid, int64, int64, int64, impl.Style) impl.Grid {
	if up {
		return upOf
	}
	return downOf
}

// partCleared clears of the cells from first to below last, counted through all rows, those from here on, those up to here with it, or all.
func partCleared(t impl.Term, params []int64, here int64, first int64, last int64) impl.Term {
	switch given(params, 0, 0) {
	case 0:
		first = here
	case 1:
		last = here + 1
	case 2:
	default:
		return t
	}
	for i, row := range t.Grid.Rows {
		begin := int64(i) * t.Grid.Cols
		from, to := max(first-begin, 0), min(last-begin, t.Grid.Cols)
		if from < to {
			t.Grid.Rows[i] = clearedOf(row, from, to, onlyBack(t))
		}
	}
	return t
}

// writeOf is Write by hand: the library reads the letters.
func writeOf(t impl.Term, text string) impl.Term {
	if !termOkOf(t) || len(text) > 2000 {
		return impl.Term{}
	}
	t = copyOfTerm(t)
	left := t.Feeder.Held + text
	for left != "" && utf8.FullRuneInString(left) {
		r, n := utf8.DecodeRuneInString(left)
		left = left[n:]
		p, acts := stepOf(t.Parser, int64(r))
		t.Parser, t.Feeder.Held = p, ""
		for _, a := range acts {
			t = doOf(t, a)
		}
	}
	t.Feeder.Held = left
	return t
}

// refitOf is Refit by hand.
func refitOf(t impl.Term, cols int64, rows int64) impl.Term {
	grid, other := resizedOf(t.Grid, cols, rows), resizedOf(t.Other, cols, rows)
	if !termOkOf(t) || len(grid.Rows) == 0 {
		return impl.Term{}
	}
	for went := int64(len(t.Grid.Rows)) - rows; went > 0 && t.Row > 0; went-- {
		t.Row--
	}
	t = copyOfTerm(t)
	t.Grid, t.Other, t.Top, t.Bottom, t.Full = grid, other, 0, rows-1, false
	t.Row, t.SavedRow = min(t.Row, rows-1), min(t.SavedRow, rows-1)
	t.Col, t.SavedCol = min(t.Col, cols-1), min(t.SavedCol, cols-1)
	return t
}

// checkTerm holds what came of a Term against what should have come, which is the zero Term or a right one.
func checkTerm(t *testing.T, from impl.Term, what any, got impl.Term, want impl.Term) {
	t.Helper()
	if !sameTerm(got, want) {
		t.Fatalf("%s\nby %+q\nis %s\nnot %s", tellTerm(from), what, tellTerm(got), tellTerm(want))
	}
	if len(got.Grid.Rows) > 0 && (!termOkOf(got) || !impl.TermOk(got)) {
		t.Fatalf("%s\nby %+q\nis wrong: %s", tellTerm(from), what, tellTerm(got))
	}
}

func checkDo(t *testing.T, from impl.Term, a impl.Action) {
	t.Helper()
	checkTerm(t, from, a, impl.Do(from, a), doOf(from, a))
}

func checkWrite(t *testing.T, from impl.Term, text string) {
	t.Helper()
	checkTerm(t, from, text, impl.Write(from, text), writeOf(from, text))
}

func checkRefit(t *testing.T, from impl.Term, cols int64, rows int64) {
	t.Helper()
	checkTerm(t, from, [2]int64{cols, rows}, impl.Refit(from, cols, rows), refitOf(from, cols, rows))
}

// termOf is a right Term of that size, all of which is in no order.
func termOf(cols int, rows int, next func(int) int) impl.Term {
	styles, parsers, held := rightStyles(), rightParsers(), []string{"", "", "\xc3", "\xe4", "\xe4\xb8", "\xf0", "\xf0\x9f", "\xf0\x9f\x98"}
	t := impl.Term{Grid: mixedGrid(cols, rows, next), Other: mixedGrid(cols, rows, next), Row: int64(next(rows)), Col: int64(next(cols)), Style: styles[next(len(styles))]}
	if rows > 1 {
		t.Top = int64(next(rows - 1))
		t.Bottom = t.Top + 1 + int64(next(rows-1-int(t.Top)))
	}
	if next(3) == 0 {
		t.Col = int64(cols - 1)
		t.Full = next(4) > 0
	}
	t.Wrap, t.Away, t.Hidden = next(3) > 0, next(2) > 0, next(2) > 0
	t.SavedRow, t.SavedCol, t.SavedStyle = int64(next(rows)), int64(next(cols)), styles[next(len(styles))]
	t.Title, t.Parser, t.Feeder = rising(next(41)), parsers[next(len(parsers))], impl.Feeder{Held: held[next(len(held))]}
	return t
}

// someTerms are right ones of all sizes, small ones most of all.
func someTerms(count int, seed uint64, yield func(impl.Term, func(int) int)) {
	next := numbersFrom(seed)
	for range count {
		cols, rows := 1+next(9), 1+next(6)
		if next(20) == 0 {
			cols, rows = 1+next(60), 1+next(30)
		}
		yield(termOf(cols, rows, next), next)
	}
}

// edgeTerms are right ones; in each a few things are at their limits.
func edgeTerms() []impl.Term {
	var all []impl.Term
	for _, size := range [][2]int64{{1, 1}, {1, 3}, {2, 1}, {2, 2}, {5, 4}, {60, 30}} {
		cols, rows := size[0], size[1]
		with := func(change func(*impl.Term)) {
			term := newOf(cols, rows)
			change(&term)
			all = append(all, term)
		}
		with(func(t *impl.Term) {})
		with(func(t *impl.Term) { t.Row, t.Col = rows-1, cols-1 })
		with(func(t *impl.Term) { t.Row, t.Col, t.Full = rows-1, cols-1, true })
		with(func(t *impl.Term) { t.Col, t.Full, t.Wrap = cols-1, true, false })
		with(func(t *impl.Term) { t.SavedRow, t.SavedCol, t.SavedStyle = rows-1, cols-1, fullStyle })
		with(func(t *impl.Term) { t.Style, t.Away, t.Hidden, t.Title = fullStyle, true, true, rising(40) })
		with(func(t *impl.Term) {
			t.Title, t.Parser, t.Feeder.Held = edgeSigns[40:], inString(rising(40)...), "\xf0\x9f\x98"
		})
		with(func(t *impl.Term) { t.Parser = inList(63, slices.Repeat([]int64{9999}, 16)...) })
		with(func(t *impl.Term) { t.Title, t.Parser.Params, t.Parser.Text = []int64{}, []int64{}, []int64{} })
		if rows > 2 {
			with(func(t *impl.Term) { t.Top, t.Bottom = rows-2, rows-1 })
			with(func(t *impl.Term) { t.Bottom, t.Row = 1, rows-1 })
		}
	}
	return all
}

// wrongTerms are each wrong by one thing; all else is right.
func wrongTerms() []impl.Term {
	all := []impl.Term{{}}
	for _, size := range [][2]int64{{1, 1}, {3, 1}, {1, 3}, {4, 3}, {60, 30}} {
		cols, rows := size[0], size[1]
		with := func(change func(*impl.Term)) {
			term := newOf(cols, rows)
			change(&term)
			all = append(all, term)
		}
		for _, far := range farNumbers {
			with(func(t *impl.Term) { t.Row = far })
			with(func(t *impl.Term) { t.Col = far })
			with(func(t *impl.Term) { t.SavedRow = far })
			with(func(t *impl.Term) { t.SavedCol = far })
			with(func(t *impl.Term) { t.Top = far })
			with(func(t *impl.Term) { t.Bottom = far })
			with(func(t *impl.Term) { t.Top, t.Bottom = far, far })
		}
		with(func(t *impl.Term) { t.Row = rows })
		with(func(t *impl.Term) { t.Col = cols })
		with(func(t *impl.Term) { t.Col, t.Full = cols, true })
		with(func(t *impl.Term) { t.SavedRow = rows })
		with(func(t *impl.Term) { t.SavedCol = cols })
		with(func(t *impl.Term) { t.Bottom = rows })
		with(func(t *impl.Term) { t.Top, t.Bottom = rows-1, rows })
		with(func(t *impl.Term) { t.Top, t.Bottom = 1, 0 })
		with(func(t *impl.Term) { t.Top, t.Bottom = -1, rows-1 })
		if rows == 1 {
			with(func(t *impl.Term) { t.Top, t.Bottom = 1, 1 })
			with(func(t *impl.Term) { t.Top, t.Bottom = 0, 1 })
		}
		if rows > 1 {
			for row := range rows {
				with(func(t *impl.Term) { t.Top, t.Bottom = row, row })
				with(func(t *impl.Term) { t.Top, t.Bottom = rows-1, row })
			}
		}
		for col := range cols - 1 {
			with(func(t *impl.Term) { t.Col, t.Full = col, true })
		}
		for _, size := range [][2]int64{{cols + 1, rows}, {cols - 1, rows}, {cols, rows + 1}, {cols, rows - 1}, {rows, cols + 1}, {61, 31}} {
			with(func(t *impl.Term) { t.Grid = blankGrid(size[0], size[1]) })
			with(func(t *impl.Term) { t.Other = blankGrid(size[0], size[1]) })
		}
	}
	return append(all, wrongWithin()...)
}

// wrongWithin are Terms of 4 times 3 of which a part is wrong by itself.
func wrongWithin() []impl.Term {
	var all []impl.Term
	with := func(change func(*impl.Term)) {
		term := newOf(4, 3)
		change(&term)
		all = append(all, term)
	}
	for _, g := range wrongGrids()[:20] {
		with(func(t *impl.Term) { t.Grid = g })
		with(func(t *impl.Term) { t.Other = g })
		with(func(t *impl.Term) { t.Grid, t.Other = g, g })
	}
	one := wide(0x4e00, boldStyle)
	for _, row := range [][]impl.Cell{blanks(4, wrongStyle), make([]impl.Cell, 4), rowOf(one, one[:1], blanks(1, boldStyle)), rowOf(one[1:], blanks(3, boldStyle)), rowOf(one, blanks(1, boldStyle), one[:1])} {
		for at := range 3 {
			with(func(t *impl.Term) { t.Grid.Rows[at] = row })
			with(func(t *impl.Term) { t.Other.Rows[at] = row })
		}
	}
	for _, s := range wrongStyles() {
		with(func(t *impl.Term) { t.Style = s })
		with(func(t *impl.Term) { t.SavedStyle = s })
	}
	for _, n := range []int{41, 42, 80, 256, 296, 1<<16 + 3} {
		with(func(t *impl.Term) { t.Title = slices.Repeat([]int64{65}, n) })
	}
	for _, r := range noRunes {
		for _, at := range []int{0, 1, 39} {
			with(func(t *impl.Term) { t.Title = rising(40); t.Title[at] = r })
		}
		with(func(t *impl.Term) { t.Title = []int64{r} })
	}
	for _, p := range wrongParsers() {
		if len(p.Params)+len(p.Text) < 50 {
			with(func(t *impl.Term) { t.Parser = p })
		}
	}
	for _, held := range slices.Concat(wrongTexts, []string{"a", "\x00", "\xc3\xa9", "\xe4\xb8\x80", "\xf0\x9f\x98\x80", "\xe4\xb8\xe4", "\xf0\x9f\x98\xf0", "\xff\xc3"}) {
		if utf8.FullRuneInString(held) {
			with(func(t *impl.Term) { t.Feeder.Held = held })
		}
	}
	return all
}

func TestTermOkOfRightOnes(t *testing.T) {
	for _, term := range edgeTerms() {
		if !impl.TermOk(term) || !termOkOf(term) {
			t.Error(tellTerm(term))
		}
	}
	someTerms(3000, 71, func(term impl.Term, _ func(int) int) {
		if !impl.TermOk(term) || !termOkOf(term) {
			t.Fatal(tellTerm(term))
		}
	})
}

func TestTermOkOfWrongOnes(t *testing.T) {
	for _, term := range wrongTerms() {
		if impl.TermOk(term) || termOkOf(term) {
			t.Error(tellTerm(term))
		}
	}
}

func TestTermOkOfEachPlace(t *testing.T) {
	for _, size := range [][2]int64{{1, 1}, {1, 2}, {3, 1}, {3, 4}} {
		term := newOf(size[0], size[1])
		for one := int64(-2); one <= 5; one++ {
			for two := int64(-2); two <= 5; two++ {
				for _, full := range []bool{false, true} {
					place, saved, margins := term, term, term
					place.Row, place.Col, place.Full = one, two, full
					saved.SavedRow, saved.SavedCol, saved.Full = one, two, full
					margins.Top, margins.Bottom, margins.Full, margins.Col = one, two, full, size[0]-1
					for _, each := range []impl.Term{place, saved, margins} {
						if got := impl.TermOk(each); got != termOkOf(each) {
							t.Fatal(got, tellTerm(each))
						}
					}
				}
			}
		}
	}
}

func TestTermOkOfEachTitleAndStyle(t *testing.T) {
	for n := range 45 {
		term := newOf(2, 2)
		term.Title = rising(n)
		if impl.TermOk(term) != (n <= 40) {
			t.Error(n)
		}
	}
	for _, r := range edgeSigns {
		term := newOf(2, 2)
		term.Title = []int64{65, r}
		if !impl.TermOk(term) {
			t.Error(r)
		}
	}
	for _, s := range rightStyles() {
		term := newOf(2, 2)
		term.Style, term.SavedStyle = s, s
		if !impl.TermOk(term) {
			t.Error(s)
		}
	}
}

func TestNewTerm(t *testing.T) {
	for cols := int64(-2); cols <= 63; cols++ {
		for rows := int64(-2); rows <= 33; rows++ {
			term, ok := impl.NewTerm(cols, rows)
			want, right := impl.Term{}, cols >= 1 && cols <= 60 && rows >= 1 && rows <= 30
			if right {
				want = newOf(cols, rows)
			}
			if ok != right || !sameTerm(term, want) || impl.TermOk(term) != right {
				t.Fatal(cols, rows, ok, tellTerm(term))
			}
		}
	}
	for _, far := range farNumbers {
		for _, near := range slices.Concat([]int64{0, 1, 20, 30}, farNumbers) {
			one, first := impl.NewTerm(far, near)
			two, second := impl.NewTerm(near, far)
			if first || second || !sameTerm(one, impl.Term{}) || !sameTerm(two, impl.Term{}) {
				t.Error(far, near, first, second)
			}
		}
	}
	if impl.MaxWrite != 2000 {
		t.Error(impl.MaxWrite)
	}
}

// A look is what is seen of a new Term of a size, behind a text.
type look struct {
	cols  int64
	rows  int64
	text  string
	shown string
	row   int64
	col   int64
	full  bool
}

// checkLooks holds texts against what should be seen behind them, and against the chapter done by hand.
func checkLooks(t *testing.T, looks []look) {
	t.Helper()
	for _, l := range looks {
		text := strings.NewReplacer("[", "\x1b[", "^", "\x1b", "W", wideText).Replace(l.text)
		shown := strings.NewReplacer("W", wideText, "/", "\n").Replace(l.shown)
		term, _ := impl.NewTerm(l.cols, l.rows)
		checkWrite(t, term, text)
		got := impl.Write(term, text)
		if impl.GridText(got.Grid) != shown || got.Row != l.row || got.Col != l.col || got.Full != l.full {
			t.Errorf("%q: %q, %d, %d, %v, not %q, %d, %d, %v", text, impl.GridText(got.Grid), got.Row, got.Col, got.Full, shown, l.row, l.col, l.full)
		}
	}
}

func TestLettersAtTheLastCol(t *testing.T) {
	checkLooks(t, []look{
		{4, 3, "", "///", 0, 0, false},
		{4, 3, "abc", "abc///", 0, 3, false},
		{4, 3, "abcd", "abcd///", 0, 3, true},
		{4, 3, "abcde", "abcd/e//", 1, 1, false},
		{4, 3, "a b", "a b///", 0, 3, false},
		{4, 3, "aW", "aW///", 0, 3, false},
		{4, 3, "abW", "abW///", 0, 3, true},
		{4, 3, "abcW", "abc/W//", 1, 2, false},
		{4, 3, "abcdW", "abcd/W//", 1, 2, false},
		{4, 3, "abWW", "abW/W//", 1, 2, false},
		{4, 3, "abWc", "abW/c//", 1, 1, false},
		{4, 3, "[?7labcde", "abce///", 0, 3, true},
		{4, 3, "[?7labcdefgh", "abch///", 0, 3, true},
		{4, 3, "[?7labW", "abW///", 0, 3, true},
		{4, 3, "[?7labcW", "abW///", 0, 3, true},
		{4, 3, "[?7labcdW", "abW///", 0, 3, true},
		{4, 3, "[?7labWW", "abW///", 0, 3, true},
		{4, 3, "[?7labWc", "ab c///", 0, 3, true},
		{4, 3, "abcd[?7le", "abce///", 0, 3, true},
		{4, 3, "[?7labcd[?7he", "abcd/e//", 1, 1, false},
		{4, 3, "ab\xcc\x81cd\xcc\x81e", "abcd/e//", 1, 1, false},
		{4, 3, "abcd\xc2\x9fe", "abcd/e//", 1, 1, false},
		{4, 3, "WW[2Gx", " xW///", 0, 2, false},
		{4, 3, "WW[GWx", "Wx///", 0, 3, false},
		{4, 3, "WW[2GW", " W///", 0, 3, false},
	})
}

func TestLettersAtTheBottomAndBelow(t *testing.T) {
	checkLooks(t, []look{
		{4, 3, "[3Habcde", "/abcd/e/", 2, 1, false},
		{4, 3, "[3HabcW", "/abc/W/", 2, 2, false},
		{4, 3, "[3HabcdW", "/abcd/W/", 2, 2, false},
		{4, 3, "[3H[?7labcde", "//abce/", 2, 3, true},
		{4, 3, "x[3Habcdefghijkl", "abcd/efgh/ijkl/", 2, 3, true},
		{4, 3, "x[3Habcdefghijklm", "efgh/ijkl/m/", 2, 1, false},
		{4, 3, "[3Hz[1;2r[2Habcde", "abcd/e/z/", 1, 1, false},
		{4, 3, "x[3Hz[1;2r[2HabcW", "abc/W/z/", 1, 2, false},
		{4, 3, "[1;2r[3Habcdef", "//efcd/", 2, 2, false},
		{4, 3, "[1;2r[3HabcW", "//Wc/", 2, 2, false},
		{4, 4, "[1;2r[3Habcde", "//abcd/e/", 3, 1, false},
		{4, 3, "[2;3rabcde", "abcd/e//", 1, 1, false},
		{4, 3, "x[2;3r[3Habcde", "x/abcd/e/", 2, 1, false},
	})
}

func TestLettersInFewCells(t *testing.T) {
	checkLooks(t, []look{
		{1, 3, "a", "a///", 0, 0, true},
		{1, 3, "ab", "a/b//", 1, 0, true},
		{1, 3, "abcd", "b/c/d/", 2, 0, true},
		{1, 3, "[?7lab", "b///", 0, 0, true},
		{1, 3, "W", "///", 0, 0, false},
		{1, 3, "aW", "a///", 0, 0, true},
		{1, 3, "aWb", "a/b//", 1, 0, true},
		{1, 3, "[?7laW", "a///", 0, 0, true},
		{1, 1, "ab", "b/", 0, 0, true},
		{1, 1, "a\n", "/", 0, 0, false},
		{2, 1, "aW", "W/", 0, 1, true},
		{2, 1, "[?7laW", "W/", 0, 1, true},
		{2, 2, "WWW", "W/W/", 1, 1, true},
		{2, 2, "aWb", "W/b/", 1, 1, false},
	})
}

func TestLettersOfEachWidth(t *testing.T) {
	for _, term := range edgeTerms() {
		for r := range edgeWidths {
			checkDo(t, term, printed(r))
		}
		if got := impl.Do(term, printed(0x301)); !sameTerm(got, term) {
			t.Error(tellTerm(got))
		}
	}
	styled := impl.Write(newOf(3, 1), "\x1b[1;32;45ma"+wideText)
	s := impl.Style{Fore: 3, Back: 6, Bold: true}
	if !slices.Equal(styled.Grid.Rows[0], rowOf(whole('a', s), wide(0x4e00, s))) || styled.Style != s {
		t.Error(tellTerm(styled), styled.Grid)
	}
}

func TestTheControls(t *testing.T) {
	checkLooks(t, []look{
		{20, 3, "ab\bc", "ac///", 0, 2, false},
		{20, 3, "\b", "///", 0, 0, false},
		{20, 3, "ab\b\b\bc", "cb///", 0, 1, false},
		{4, 3, "abcd\b", "abcd///", 0, 2, false},
		{4, 3, "abcd\be", "abed///", 0, 3, false},
		{20, 3, "\t", "///", 0, 8, false},
		{20, 3, "1234567\t", "1234567///", 0, 8, false},
		{20, 3, "12345678\t", "12345678///", 0, 16, false},
		{20, 3, "\t\tx", "                x///", 0, 17, false},
		{20, 3, "\t\t\t\t", "///", 0, 19, false},
		{8, 3, "\t", "///", 0, 7, false},
		{9, 3, "\t", "///", 0, 8, false},
		{9, 3, "\t\t", "///", 0, 8, false},
		{17, 3, "\t\t", "///", 0, 16, false},
		{16, 3, "\t\t", "///", 0, 15, false},
		{1, 3, "a\tb", "b///", 0, 0, true},
		{4, 3, "abcd\t", "abcd///", 0, 3, false},
		{4, 3, "ab\nc", "ab/  c//", 1, 3, false},
		{4, 3, "ab\vc", "ab/  c//", 1, 3, false},
		{4, 3, "ab\fc", "ab/  c//", 1, 3, false},
		{4, 3, "abcd\n", "abcd///", 1, 3, false},
		{4, 3, "abcd\ne", "abcd/   e//", 1, 3, true},
		{4, 3, "a\nb\nc\nd", " b/  c/   d/", 2, 3, true},
		{4, 3, "a\nb\vc\fd", " b/  c/   d/", 2, 3, true},
		{4, 3, "ab\rc", "cb///", 0, 1, false},
		{4, 3, "abcd\r", "abcd///", 0, 0, false},
		{4, 3, "abcd\re", "ebcd///", 0, 1, false},
		{4, 3, "abcd\ae", "abcd/e//", 1, 1, false},
		{4, 3, "abcd\x0ee", "abcd/e//", 1, 1, false},
		{4, 3, "abcd\a", "abcd///", 0, 3, true},
		{4, 3, "abcd\x0e", "abcd///", 0, 3, true},
		{4, 3, "abcd\x00\x7f", "abcd///", 0, 3, true},
		{4, 3, "ab\a\x0e\x00\x7fc", "abc///", 0, 3, false},
	})
}

func TestTheEscapes(t *testing.T) {
	checkLooks(t, []look{
		{4, 3, "ab^Dc", "ab/  c//", 1, 3, false},
		{4, 3, "ab^Ec", "ab/c//", 1, 1, false},
		{4, 3, "abcd^D", "abcd///", 1, 3, false},
		{4, 3, "abcd^E", "abcd///", 1, 0, false},
		{4, 3, "a[3Hb^Dc", "/b/ c/", 2, 2, false},
		{4, 3, "a[3Hb^Ec", "/b/c/", 2, 1, false},
		{4, 3, "a^Mb", " b/a//", 0, 2, false},
		{4, 3, "[2Ha^Mb", " b/a//", 0, 2, false},
		{4, 3, "abcd^M", "/abcd//", 0, 3, false},
		{4, 3, "a\r\nb\r\nc[2;3r[2H^Mx", "a/x/b/", 1, 1, false},
		{4, 3, "a\r\nb\r\nc[2;3r^Mx", "x/b/c/", 0, 1, false},
		{4, 4, "a\r\nb\r\nc\r\nd[3;4r[2H^Mx", "x/b/c/d/", 0, 1, false},
		{4, 4, "a\r\nb\r\nc\r\nd[1;2r[4H^Mx", "a/b/x/d/", 2, 1, false},
		{4, 3, "a\r\nb\r\nc[1;2r[2H^Mx", "x/b/c/", 0, 1, false},
		{4, 3, "a\r\nb\r\nc[1;2r[3H^Mx", "a/x/c/", 1, 1, false},
		{4, 3, "a\r\nb\r\nc[1;2r[2H^Dx", "b/x/c/", 1, 1, false},
		{4, 3, "a\r\nb\r\nc[1;2r[3H^Dx", "a/b/x/", 2, 1, false},
		{4, 4, "a\r\nb\r\nc\r\nd[1;2r[3H^Dx", "a/b/c/x/", 3, 1, false},
		{4, 3, "a\r\nb\r\nc[2;3r^Dx", "a/x/c/", 1, 1, false},
		{4, 3, "a\r\nb\r\nc[2;3r[2H^Dx", "a/b/x/", 2, 1, false},
		{4, 3, "a\r\nb\r\nc[2;3r[3H^Ex", "a/c/x/", 2, 1, false},
		{4, 1, "a^Db", " b/", 0, 2, false},
		{4, 1, "a^Eb", "b/", 0, 1, false},
		{4, 1, "a^Mb", " b/", 0, 2, false},
		{4, 3, "[2;3H^7[3;4H^8x", "/  x//", 1, 3, false},
		{4, 3, "[2;3H^8x", "x///", 0, 1, false},
		{4, 3, "abcd^7", "abcd///", 0, 3, false},
		{4, 3, "abcd^7\r\n^8e", "abce///", 0, 3, true},
		{4, 3, "abcd^8", "abcd///", 0, 0, false},
		{4, 3, "abcd^c", "///", 0, 0, false},
		{4, 3, "abcd^z", "abcd///", 0, 3, true},
		{4, 3, "abcd^me", "abcd/e//", 1, 1, false},
	})
}

func TestWhatIsSavedAndBroughtBack(t *testing.T) {
	term := impl.Write(newOf(4, 3), "\x1b[2;4H\x1b[1;31;42m\x1b7\x1b[H\x1b[m")
	s := impl.Style{Fore: 2, Back: 3, Bold: true}
	if term.SavedRow != 1 || term.SavedCol != 3 || term.SavedStyle != s || term.Style != (impl.Style{}) {
		t.Error(tellTerm(term))
	}
	back := impl.Write(term, "\x1b8")
	if back.Row != 1 || back.Col != 3 || back.Style != s || back.SavedRow != 1 || back.SavedCol != 3 || back.SavedStyle != s {
		t.Error(tellTerm(back))
	}
}

// What control c keeps, and what it brings back as it was at first, is told for each part alone.
func TestATermBegunAnew(t *testing.T) {
	someTerms(500, 72, func(term impl.Term, _ func(int) int) {
		want := newOf(term.Grid.Cols, int64(len(term.Grid.Rows)))
		want.Title, want.Parser, want.Feeder = term.Title, term.Parser, term.Feeder
		checkTerm(t, term, "c", impl.Do(term, escaped('c')), want)
	})
	term := impl.Write(newOf(4, 3), "a\x1b]ti\a\x1b[?7;25l\x1b[?1049h\x1b[1;2r\x1b[1mb\x1b7cde\x1bc\x1b[12;\xe4\xb8")
	want := newOf(4, 3)
	want.Title, want.Parser = []int64{'t', 'i'}, inList(0, 12, 0)
	want.Feeder.Held = "\xe4\xb8"
	checkTerm(t, newOf(4, 3), "c amid a text", term, want)
}

// A place is where the cursor is behind a text.
type place struct {
	text string
	row  int64
	col  int64
}

// checkPlaces holds texts, behind one that goes ahead of each, against where the cursor of a blank grid of 6 times 5 should be.
func checkPlaces(t *testing.T, ahead string, places []place) {
	t.Helper()
	var looks []look
	for _, p := range places {
		looks = append(looks, look{6, 5, ahead + p.text, "/////", p.row, p.col, false})
	}
	checkLooks(t, looks)
}

func TestTheCursorGoes(t *testing.T) {
	checkPlaces(t, "[3;3H", []place{
		{"", 2, 2},
		{"[A", 1, 2}, {"[0A", 1, 2}, {"[1A", 1, 2}, {"[2A", 0, 2}, {"[3A", 0, 2}, {"[9999A", 0, 2}, {"[99999A", 0, 2}, {"[;9A", 1, 2},
		{"[B", 3, 2}, {"[0B", 3, 2}, {"[1B", 3, 2}, {"[2B", 4, 2}, {"[3B", 4, 2}, {"[9999B", 4, 2}, {"[;9B", 3, 2},
		{"[C", 2, 3}, {"[0C", 2, 3}, {"[1C", 2, 3}, {"[3C", 2, 5}, {"[4C", 2, 5}, {"[9999C", 2, 5}, {"[;9C", 2, 3},
		{"[D", 2, 1}, {"[0D", 2, 1}, {"[1D", 2, 1}, {"[2D", 2, 0}, {"[3D", 2, 0}, {"[9999D", 2, 0}, {"[;9D", 2, 1},
		{"[G", 2, 0}, {"[0G", 2, 0}, {"[1G", 2, 0}, {"[5G", 2, 4}, {"[6G", 2, 5}, {"[7G", 2, 5}, {"[9999G", 2, 5}, {"[;9G", 2, 0},
		{"[d", 0, 2}, {"[0d", 0, 2}, {"[1d", 0, 2}, {"[4d", 3, 2}, {"[5d", 4, 2}, {"[6d", 4, 2}, {"[9999d", 4, 2}, {"[;9d", 0, 2},
		{"[?A", 2, 2}, {"[?3C", 2, 2}, {"[?H", 2, 2}, {"[?1G", 2, 2}, {"[?1d", 2, 2}, {"[E", 2, 2}, {"[F", 2, 2}, {"[g", 2, 2}, {"[a", 2, 2}, {"[c", 2, 2},
	})
	for _, sign := range []string{"H", "f"} {
		checkPlaces(t, "[3;3H[", []place{
			{sign, 0, 0}, {"0" + sign, 0, 0}, {"1" + sign, 0, 0}, {"2" + sign, 1, 0}, {";2" + sign, 0, 1}, {"0;2" + sign, 0, 1}, {"2;" + sign, 1, 0}, {"2;0" + sign, 1, 0},
			{"4;5" + sign, 3, 4}, {"5;6" + sign, 4, 5}, {"6;6" + sign, 4, 5}, {"5;7" + sign, 4, 5}, {"9999;1" + sign, 4, 0}, {"1;9999" + sign, 0, 5}, {"4;5;6" + sign, 3, 4}, {"0;0" + sign, 0, 0},
		})
	}
}

func TestTheCursorGoesAtTopAndBottom(t *testing.T) {
	checkPlaces(t, "[2;4r", []place{
		{"[3H[A", 1, 0}, {"[3H[2A", 1, 0}, {"[3H[9999A", 1, 0}, {"[2H[A", 1, 0}, {"[4H[9A", 1, 0}, {"[5H[A", 3, 0}, {"[5H[9A", 1, 0}, {"[1H[A", 0, 0}, {"[1H[9A", 0, 0},
		{"[3H[B", 3, 0}, {"[3H[2B", 3, 0}, {"[3H[9999B", 3, 0}, {"[4H[B", 3, 0}, {"[2H[9B", 3, 0}, {"[1H[B", 1, 0}, {"[1H[9B", 3, 0}, {"[5H[B", 4, 0}, {"[5H[9B", 4, 0},
		{"[5d", 4, 0}, {"[1;3H", 0, 2}, {"[5;3H", 4, 2}, {"[5;3f", 4, 2}, {"[3H[9C", 2, 5},
	})
	checkPlaces(t, "[3;4r", []place{{"[2H[A", 0, 0}, {"[2H[9A", 0, 0}, {"[3H[9A", 2, 0}, {"[2H[B", 2, 0}, {"[2H[9B", 3, 0}})
	checkPlaces(t, "[1;3r", []place{{"[4H[B", 4, 0}, {"[4H[9B", 4, 0}, {"[3H[9B", 2, 0}, {"[4H[A", 2, 0}, {"[4H[9A", 0, 0}})
}

// behind gives the look of one grid, with the cursor somewhere, behind each of some signs.
func behind(cols int64, rows int64, ahead string, row int64, col int64, shown map[string]string) []look {
	var looks []look
	for sign, each := range shown {
		looks = append(looks, look{cols, rows, ahead + sign, each, row, col, false})
	}
	return looks
}

func TestCellsAreCleared(t *testing.T) {
	full := "abcd\r\nefgh\r\nijkl"
	checkLooks(t, behind(4, 3, full+"[2;3H", 1, 2, map[string]string{
		"[J": "abcd/ef//", "[0J": "abcd/ef//", "[1J": "/   h/ijkl/", "[2J": "///", "[3J": "abcd/efgh/ijkl/", "[9999J": "abcd/efgh/ijkl/", "[;1J": "abcd/ef//",
		"[K": "abcd/ef/ijkl/", "[0K": "abcd/ef/ijkl/", "[1K": "abcd/   h/ijkl/", "[2K": "abcd//ijkl/", "[3K": "abcd/efgh/ijkl/", "[;1K": "abcd/ef/ijkl/",
		"[X": "abcd/ef h/ijkl/", "[0X": "abcd/ef h/ijkl/", "[2X": "abcd/ef/ijkl/", "[3X": "abcd/ef/ijkl/", "[9999X": "abcd/ef/ijkl/",
		"[?J": "abcd/efgh/ijkl/", "[?2J": "abcd/efgh/ijkl/", "[?K": "abcd/efgh/ijkl/", "[?X": "abcd/efgh/ijkl/",
	}))
	checkLooks(t, behind(4, 3, full+"[H", 0, 0, map[string]string{
		"[J": "///", "[1J": " bcd/efgh/ijkl/", "[2J": "///", "[K": "/efgh/ijkl/", "[1K": " bcd/efgh/ijkl/", "[2K": "/efgh/ijkl/",
		"[X": " bcd/efgh/ijkl/", "[3X": "   d/efgh/ijkl/", "[4X": "/efgh/ijkl/", "[5X": "/efgh/ijkl/",
	}))
	checkLooks(t, behind(4, 3, full, 2, 3, map[string]string{
		"[J": "abcd/efgh/ijk/", "[1J": "///", "[2J": "///", "[K": "abcd/efgh/ijk/", "[1K": "abcd/efgh//", "[2K": "abcd/efgh//", "[X": "abcd/efgh/ijk/", "[2X": "abcd/efgh/ijk/",
	}))
	wide := "WaWb/"
	checkLooks(t, behind(6, 2, "WaWb[2G", 0, 1, map[string]string{"": wide + "/", "[K": "//", "[1K": "  aWb//", "[J": "//", "[1J": "  aWb//", "[X": "  aWb//", "[2X": "   Wb//", "[3X": "     b//"}))
	checkLooks(t, behind(6, 2, "WaWb[4G", 0, 3, map[string]string{"[K": "Wa//", "[1K": "     b//", "[X": "Wa  b//", "[2X": "Wa  b//", "[3X": "Wa//"}))
	checkLooks(t, behind(6, 2, "WaWb[5G", 0, 4, map[string]string{"[K": "Wa//", "[1K": "     b//", "[X": "Wa  b//", "[2X": "Wa//"}))
}

func TestCellsArePutAndTaken(t *testing.T) {
	at := func(col string, row int64, number int64, shown map[string]string) {
		t.Helper()
		checkLooks(t, behind(4, 2, "abcd"+col, row, number, shown))
	}
	at("[2G", 0, 1, map[string]string{"[@": "a bc//", "[0@": "a bc//", "[1@": "a bc//", "[2@": "a  b//", "[3@": "a//", "[4@": "a//", "[9999@": "a//", "[?@": "abcd//"})
	at("[G", 0, 0, map[string]string{"[@": " abc//", "[3@": "   a//", "[4@": "//", "[5@": "//", "[9999@": "//"})
	at("[4G", 0, 3, map[string]string{"[@": "abc//", "[2@": "abc//", "[9999@": "abc//"})
	at("[2G", 0, 1, map[string]string{"[P": "acd//", "[0P": "acd//", "[1P": "acd//", "[2P": "ad//", "[3P": "a//", "[4P": "a//", "[9999P": "a//", "[?P": "abcd//"})
	at("[G", 0, 0, map[string]string{"[P": "bcd//", "[3P": "d//", "[4P": "//", "[5P": "//", "[9999P": "//"})
	at("[4G", 0, 3, map[string]string{"[P": "abc//", "[2P": "abc//", "[9999P": "abc//"})
	at("", 0, 3, map[string]string{"[@": "abc//", "[P": "abc//", "[X": "abc//"})
	checkLooks(t, behind(6, 1, "WaWb[G", 0, 0, map[string]string{"[@": " WaW/", "[2@": "  Wa/", "[3@": "   Wa/", "[P": " aWb/", "[2P": "aWb/", "[4P": " b/"}))
	checkLooks(t, behind(6, 1, "WaWb[2G", 0, 1, map[string]string{"[@": "   aW/", "[2@": "    a/", "[P": " aWb/", "[2P": " Wb/", "[3P": "  b/"}))
}

func TestRowsArePutAndTaken(t *testing.T) {
	full := "a\r\nb\r\nc\r\nd"
	same := "a/b/c/d/"
	checkLooks(t, behind(4, 4, full+"[2;3H", 1, 0, map[string]string{
		"[L": "a//b/c/", "[0L": "a//b/c/", "[1L": "a//b/c/", "[2L": "a///b/", "[3L": "a////", "[4L": "a////", "[1000L": "a////", "[1001L": "a////", "[9999L": "a////",
		"[M": "a/c/d//", "[0M": "a/c/d//", "[1M": "a/c/d//", "[2M": "a/d///", "[3M": "a////", "[4M": "a////", "[1000M": "a////", "[1001M": "a////", "[9999M": "a////",
	}))
	checkLooks(t, behind(4, 4, full+"[2;3H", 1, 2, map[string]string{"[?L": same, "[?M": same}))
	checkLooks(t, behind(4, 4, full+"[2;3r[2;3H", 1, 0, map[string]string{"[L": "a//b/d/", "[2L": "a///d/", "[9L": "a///d/", "[M": "a/c//d/", "[2M": "a///d/", "[9M": "a///d/"}))
	checkLooks(t, behind(4, 4, full+"[2;3r[3;3H", 2, 0, map[string]string{"[L": "a/b//d/", "[2L": "a/b//d/", "[M": "a/b//d/", "[2M": "a/b//d/"}))
	checkLooks(t, behind(4, 4, full+"[2;3r[1;3H", 0, 2, map[string]string{"[L": same, "[2L": same, "[M": same, "[2M": same}))
	checkLooks(t, behind(4, 4, full+"[2;3r[4;3H", 3, 2, map[string]string{"[L": same, "[2L": same, "[M": same, "[2M": same}))
	checkLooks(t, behind(4, 1, "ab[2G", 0, 0, map[string]string{"[L": "/", "[M": "/", "[9999L": "/", "[9999M": "/"}))
}

func TestRowsAreScrolled(t *testing.T) {
	full := "a\r\nb\r\nc\r\nd"
	checkLooks(t, behind(4, 4, full+"[2;3H", 1, 2, map[string]string{
		"[S": "b/c/d//", "[0S": "b/c/d//", "[1S": "b/c/d//", "[2S": "c/d///", "[3S": "d////", "[4S": "////", "[5S": "////", "[1000S": "////", "[1001S": "////", "[9999S": "////", "[?S": "a/b/c/d/",
		"[T": "/a/b/c/", "[0T": "/a/b/c/", "[1T": "/a/b/c/", "[2T": "//a/b/", "[3T": "///a/", "[4T": "////", "[5T": "////", "[1000T": "////", "[1001T": "////", "[9999T": "////", "[?T": "a/b/c/d/",
	}))
	for _, row := range []int64{0, 1, 2, 3} {
		ahead := fmt.Sprintf("%s[2;3r[%d;3H", full, row+1)
		checkLooks(t, behind(4, 4, ahead, row, 2, map[string]string{"[S": "a/c//d/", "[2S": "a///d/", "[9S": "a///d/", "[T": "a//b/d/", "[2T": "a///d/", "[9T": "a///d/"}))
	}
	checkLooks(t, behind(4, 1, "ab", 0, 2, map[string]string{"[S": "/", "[T": "/"}))
}

// What comes blank has the Back of Style and nothing else of it.
func TestBlanksHaveTheBackAlone(t *testing.T) {
	s, back := impl.Style{Fore: 2, Back: 5, Bold: true, Under: true, Turned: true}, backStyle
	row := func(pieces ...[]impl.Cell) []impl.Cell { return rowOf(pieces...) }
	a, b, c := whole('a', redStyle), whole('b', redStyle), whole('c', redStyle)
	all, fresh := row(a, b, c), blanks(3, back)
	for sign, want := range map[string][][]impl.Cell{
		"\x1b[J":         {row(a, blanks(2, back)), fresh},
		"\x1b[1J":        {row(blanks(2, back), c), all},
		"\x1b[2J":        {fresh, fresh},
		"\x1b[K":         {row(a, blanks(2, back)), all},
		"\x1b[1K":        {row(blanks(2, back), c), all},
		"\x1b[2K":        {fresh, all},
		"\x1b[X":         {row(a, blanks(1, back), c), all},
		"\x1b[@":         {row(a, blanks(1, back), b), all},
		"\x1b[P":         {row(a, c, blanks(1, back)), all},
		"\x1b[L":         {fresh, all},
		"\x1b[M":         {all, fresh},
		"\x1b[S":         {all, fresh},
		"\x1b[T":         {fresh, all},
		"\x1bM":          {fresh, all},
		"\n\n":           {all, fresh},
		"\x1b[2H\x1bD":   {all, fresh},
		"\x1b[2H\x1bE":   {all, fresh},
		"\x1b[3G\xff\n":  {row(a, b, whole(65533, s)), all},
		"\x1b[?1049h":    {blanks(3, impl.Style{}), blanks(3, impl.Style{})},
		"\x1bc":          {blanks(3, impl.Style{}), blanks(3, impl.Style{})},
		"\x1b[2;3Hxy":    {row(a, b, whole('x', s)), row(whole('y', s), blanks(2, back))},
		"\x1b[1;3Hxy":    {row(a, b, whole('x', s)), row(whole('y', s), b, c)},
		"\x1b[2;3Hx\n\n": {fresh, fresh},
	} {
		term := newOf(3, 2)
		term.Grid, term.Col, term.Style = gridOf(slices.Clone(all), slices.Clone(all)), 1, s
		checkWrite(t, term, sign)
		if got := impl.Write(term, sign); !sameGrid(got.Grid, gridOf(want...)) {
			t.Errorf("%q: %v, not %v", sign, got.Grid, want)
		}
	}
}

func TestStylesOfATerm(t *testing.T) {
	for text, want := range map[string]impl.Style{
		"\x1b[1m": {Bold: true}, "\x1b[1;31;44m": {Fore: 2, Back: 5, Bold: true}, "\x1b[1m\x1b[m": {}, "\x1b[1m\x1b[0m": {}, "\x1b[1;0m": {}, "\x1b[1m\x1b[;4m": {Under: true},
		"\x1b[7m\x1b[99m": {Turned: true}, "\x1b[7m\x1b[?m": {Turned: true}, "\x1b[7m\x1b[?27m": {Turned: true}, "\x1b[?1m": {}, "\x1bm": {}, "\x1b[1;4;7;31;41m\x1b[22;24;27;39;49m": {},
		"\x1b[1;;;;;;;;;;;;;;;7m": {Turned: true}, "\x1b[99;99;99;99;99;99;99;99;99;99;99;99;99;99;99;4m": {Under: true},
	} {
		if got := impl.Write(newOf(4, 3), text); got.Style != want || got.SavedStyle != (impl.Style{}) {
			t.Errorf("%q: %v, not %v", text, got.Style, want)
		}
		checkWrite(t, newOf(4, 3), text)
	}
	for _, param := range someParams {
		for _, s := range []impl.Style{{}, fullStyle} {
			term := newOf(4, 3)
			term.Style = s
			checkDo(t, term, listed('m', 0, param))
		}
	}
}

func TestTheMargins(t *testing.T) {
	for text, want := range map[string][2]int64{
		"": {1, 2}, "[r": {0, 3}, "[0r": {0, 3}, "[;r": {0, 3}, "[0;0r": {0, 3}, "[1;4r": {0, 3}, "[2r": {1, 3}, "[2;0r": {1, 3}, "[;2r": {0, 1}, "[0;2r": {0, 1}, "[3;4r": {2, 3}, "[1;3;9r": {0, 2},
	} {
		checkMargins(t, text, want, text != "")
	}
	for _, text := range []string{"[3;3r", "[1;1r", "[4;2r", "[2;1r", "[4r", "[4;0r", "[5r", "[2;5r", "[1;5r", "[5;6r", "[4;5r", "[2;9999r", "[9999r", "[9999;9999r", "[;1r", "[?r", "[?1;3r"} {
		checkMargins(t, text, [2]int64{1, 2}, false)
	}
	checkLooks(t, []look{{4, 1, "ab[r", "ab/", 0, 2, false}, {4, 1, "ab[1;1r", "ab/", 0, 2, false}, {4, 1, "ab[1;2r", "ab/", 0, 2, false}, {4, 2, "ab[1;2r", "ab//", 0, 0, false}})
}

// checkMargins holds Top and Bottom of 4 rows, which were 1 and 2 ahead of a text, against what they should be behind it, and whether the cursor goes to the first cell.
func checkMargins(t *testing.T, text string, want [2]int64, home bool) {
	t.Helper()
	text = strings.ReplaceAll("[2;3r[2;3H"+text, "[", "\x1b[")
	checkWrite(t, newOf(4, 4), text)
	got := impl.Write(newOf(4, 4), text)
	if [2]int64{got.Top, got.Bottom} != want || (got.Row == 0) != home || (got.Col == 0) != home || !home && (got.Row != 1 || got.Col != 2) {
		t.Errorf("%q: %s", text, tellTerm(got))
	}
}

func TestTheModes(t *testing.T) {
	for text, want := range map[string][3]bool{
		"": {true, false, false}, "[?7l": {false, false, false}, "[?7l[?7h": {true, false, false}, "[?7l[?7l": {false, false, false}, "[?7h": {true, false, false},
		"[?25l": {true, true, false}, "[?25l[?25h": {true, false, false}, "[?25h": {true, false, false}, "[?1049h": {true, false, true}, "[?1049l": {true, false, false},
		"[?7;25l": {false, true, false}, "[?25;7l": {false, true, false}, "[?25;1049;7h": {true, false, true}, "[?7;25;1049l": {false, true, false}, "[?7;25l[?7;25;1049h": {true, false, true},
		"[7l": {true, false, false}, "[25l": {true, false, false}, "[1049h": {true, false, false}, "[?l": {true, false, false}, "[?h": {true, false, false}, "[?0l": {true, false, false},
		"[?6l": {true, false, false}, "[?8;24;26l": {true, false, false}, "[?1048;1050;47;1047h": {true, false, false}, "[?7i": {true, false, false}, "[?7k": {true, false, false}, "[?25H": {true, false, false},
		"[?1;2;3;4;5;6;8;9;10;11;12;13;14;15;16;25l": {true, true, false}, "[?7l[l": {false, false, false}, "[?7l[h": {false, false, false}, "[?7l^h": {false, false, false}, "^l": {true, false, false},
	} {
		bytes := strings.NewReplacer("[", "\x1b[", "^", "\x1b").Replace(text)
		got := impl.Write(newOf(4, 3), bytes)
		if [3]bool{got.Wrap, got.Hidden, got.Away} != want {
			t.Errorf("%q: %s", text, tellTerm(got))
		}
		checkWrite(t, newOf(4, 3), bytes)
	}
}

func TestTheOtherGrid(t *testing.T) {
	for _, c := range []struct {
		text  string
		grid  string
		other string
		away  bool
	}{
		{"ab", "ab//", "//", false},
		{"ab[?1049h", "//", "ab//", true},
		{"ab[?1049hc", "  c//", "ab//", true},
		{"ab[?1049hc[?1049h", "  c//", "ab//", true},
		{"ab[?1049hc[?1049l", "ab//", "  c//", false},
		{"ab[?1049hc[?1049l[?1049l", "ab//", "  c//", false},
		{"ab[?1049hc[?1049ld", "ab d//", "  c//", false},
		{"ab[?1049hc[?1049ld[?1049h", "//", "ab d//", true},
		{"ab[?1049;1049h", "//", "ab//", true},
		{"ab[?1049l", "ab//", "//", false},
		{"ab[?1049h^c", "//", "//", false},
		{"ab[41m[?1049hc", "  c//", "ab//", true},
		{"abcd[?1049he", "/e/", "abcd//", true},
	} {
		text := strings.NewReplacer("[", "\x1b[", "^", "\x1b").Replace(c.text)
		got := impl.Write(newOf(4, 2), text)
		grid, other := strings.ReplaceAll(c.grid, "/", "\n"), strings.ReplaceAll(c.other, "/", "\n")
		if impl.GridText(got.Grid) != grid || impl.GridText(got.Other) != other || got.Away != c.away {
			t.Errorf("%q: %s", c.text, tellTerm(got))
		}
		checkWrite(t, newOf(4, 2), text)
	}
}

func TestTitlesOfATerm(t *testing.T) {
	for text, want := range map[string]string{
		"\x1b]ab\x07": "ab", "\x1b]ab\x1b\\": "ab", "\x1b]ab\x07\x1b]\x07": "", "\x1b]ab\x07\x1b]cd": "ab", "\x1b]ab\x1bc": "", "\x1b]" + wideText + "\x07abcde": wideText,
		"\x1b]" + strings.Repeat("t", 40) + "\x07": strings.Repeat("t", 40), "\x1b]" + strings.Repeat("t", 41) + "\x07": strings.Repeat("t", 40), "\x1b]a\x07\x1bc": "a",
	} {
		if got := impl.Write(newOf(4, 2), text); !slices.Equal(got.Title, runesOf(want)) {
			t.Errorf("%q: %v, not %q", text, got.Title, want)
		}
		checkWrite(t, newOf(4, 2), text)
	}
}

// fullTerm is one of 4 times 3 of which the last cell of its first row was written.
func fullTerm() impl.Term {
	return impl.Write(newOf(4, 3), "abcd")
}

func TestWhatKeepsFull(t *testing.T) {
	for r := int64(0); r <= 300; r++ {
		known := map[int64]string{2: "\b\t\n\v\f\r", 3: "DEM78c", 4: "ABCDGdHfJKLM@PXSTr"}
		for _, act := range []impl.Action{controlled(r), escaped(r), listed(r, 0), listed(r, 0, 9999, 9999), listed(r, 63), listed(r, 63, 7, 25, 1049), {Kind: 5, Rune: r}} {
			keeps := act.Mark == 63 || !strings.ContainsRune(known[act.Kind], rune(r))
			if got := impl.Do(fullTerm(), act); got.Full != keeps {
				t.Errorf("%v: %s", act, tellTerm(got))
			}
			checkDo(t, fullTerm(), act)
		}
		got := impl.Do(fullTerm(), printed(r))
		if nothing := widthOf(r) == 0; got.Full != nothing {
			t.Errorf("letter %d: %s", r, tellTerm(got))
		}
	}
}

// Behind what ends Full a letter comes into the last cell once more, behind what keeps it a line is fed first.
func TestLettersBehindWhatKeepsFull(t *testing.T) {
	for _, kept := range []string{
		"[1m", "[m", "[?25l", "[?7l[?7h", "[?9h", "[?1049h[?1049l", "^]t\a", "^]t^\\", "\x7f", "\xcc\x81",
		"[4h", "[4l", "[z", "[E", "[5n", "[?5A", "[?A", "[?2J", "[?K", "[?r", "[?1;2r", "[?m", "[?X",
	} {
		checkLooks(t, []look{{4, 3, "abcd" + kept, "abcd///", 0, 3, true}, {4, 3, "abcd" + kept + "e", "abcd/e//", 1, 1, false}})
	}
	for _, ended := range []string{"\t", "[C", "[9C", "[3J", "[3K", "[4;1r", "[2;2r", "[1;9r", "^7", "[4G", "[d"} {
		checkLooks(t, []look{{4, 3, "abcd" + ended, "abcd///", 0, 3, false}, {4, 3, "abcd" + ended + "e", "abce///", 0, 3, true}})
	}
	checkLooks(t, []look{
		{4, 3, "[2;3r[Habcd[Le", "abce///", 0, 3, true},
		{4, 3, "[2;3r[Habcd[Me", "abce///", 0, 3, true},
	})
}

// A right rune that is far above a known one is none of these, however its number is cut.
func TestWhatIsFarAboveAKnownOneKeepsFull(t *testing.T) {
	for _, above := range []int64{128, 256, 512, 1024, 1 << 16, 1 << 20} {
		for _, low := range "\b\t\n\v\f\rDEM78cABGdHfJKLP@XSTr" {
			r := int64(low) + above
			for _, act := range []impl.Action{controlled(r), escaped(r), listed(r, 0, 2), listed(r, 63, 2)} {
				if got := impl.Do(fullTerm(), act); !sameTerm(got, fullTerm()) {
					t.Errorf("%v: %s", act, tellTerm(got))
				}
			}
		}
	}
}

// wrongActions are each wrong by one thing; else there would be something to do.
func wrongActions() []impl.Action {
	var all []impl.Action
	with := func(change func(*impl.Action)) {
		for _, a := range []impl.Action{printed('x'), controlled(13), escaped('c'), listed('J', 0, 2), listed('h', 63, 1049), titled('t')} {
			a.Params = slices.Clone(a.Params)
			change(&a)
			all = append(all, a)
		}
	}
	for _, kind := range farStates {
		with(func(a *impl.Action) { a.Kind = kind })
	}
	for _, r := range noRunes {
		with(func(a *impl.Action) { a.Rune = r })
		for _, at := range []int{0, 39} {
			with(func(a *impl.Action) { a.Text = rising(40); a.Text[at] = r })
		}
	}
	for _, mark := range wrongMarks {
		with(func(a *impl.Action) { a.Mark = mark })
	}
	for _, param := range wrongParams {
		with(func(a *impl.Action) { a.Params = []int64{param} })
		with(func(a *impl.Action) { a.Params = append(a.Params, 2, param) })
		with(func(a *impl.Action) { a.Params = append(make([]int64, 15), param) })
	}
	for _, n := range []int{17, 18, 32, 256, 272, 1 << 16} {
		with(func(a *impl.Action) { a.Params = slices.Repeat([]int64{2}, n) })
	}
	for _, n := range []int{41, 42, 80, 256, 296, 1 << 16} {
		with(func(a *impl.Action) { a.Text = slices.Repeat([]int64{65}, n) })
	}
	return all
}

func TestNothingIsDoneByAWrongAction(t *testing.T) {
	terms := []impl.Term{fullTerm(), newOf(1, 1), termOf(5, 4, numbersFrom(73)), termOf(60, 30, numbersFrom(74))}
	for _, a := range wrongActions() {
		for _, term := range terms {
			if got := impl.Do(term, a); !sameTerm(got, term) || doneOf(a) {
				t.Fatalf("%v: %s", a, tellTerm(got))
			}
		}
	}
}

// What does not belong to an action's kind is of no weight, as long as it is right.
func TestWhatBelongsToNoActionOfThatKind(t *testing.T) {
	for _, a := range []impl.Action{printed('x'), controlled(13), escaped('D'), listed('K', 0), titled('t')} {
		want := impl.Do(fullTerm(), a)
		more := a
		if a.Kind != 4 {
			more.Params = append(make([]int64, 15), 9999)
			more.Mark = 63
		}
		if a.Kind != 5 {
			more.Text = append(rising(39), 1114111)
		} else {
			more.Rune = 1114111
		}
		checkTerm(t, fullTerm(), more, impl.Do(fullTerm(), more), want)
		checkDo(t, fullTerm(), more)
	}
	for r := int64(0); r <= 300; r++ {
		for kind := int64(1); kind <= 5; kind++ {
			checkDo(t, fullTerm(), impl.Action{Kind: kind, Rune: r, Params: []int64{2, 3}})
		}
	}
	for _, r := range edgeSigns {
		for kind := int64(1); kind <= 5; kind++ {
			checkDo(t, fullTerm(), impl.Action{Kind: kind, Rune: r, Mark: 63, Params: []int64{1049}})
		}
	}
}

// knownActions are of each sign of the chapter, with params at their edges.
func knownActions() []impl.Action {
	all := []impl.Action{printed('x'), printed(32), printed(0x4e00), printed(0x301), titled(), titled('t', 0x4e00), titled(rising(40)...)}
	for r := int64(0); r < 32; r++ {
		all = append(all, controlled(r))
	}
	for _, r := range []int64{'D', 'E', 'M', '7', '8', 'c', 'x'} {
		all = append(all, escaped(r))
	}
	params := [][]int64{nil, {0}, {1}, {2}, {3}, {4}, {5}, {6}, {9}, {30}, {31}, {60}, {61}, {1000}, {1001}, {9999}, {0, 0}, {0, 2}, {2, 0}, {1, 2}, {2, 3}, {2, 4}, {3, 2}, {3, 3}, {30, 60}, {9999, 9999}, {1, 3, 7}, make([]int64, 16)}
	for _, r := range "ABCDGdHfJKLM@PXSTmrhlxZ~" {
		for _, list := range params {
			all = append(all, listed(int64(r), 0, list...))
		}
		for _, list := range [][]int64{nil, {2}, {7}, {25}, {1049}, {7, 25}, {1049, 7, 1049}} {
			all = append(all, listed(int64(r), 63, list...))
		}
	}
	return all
}

func TestEachActionIsDoneAsByHand(t *testing.T) {
	acts := knownActions()
	for _, term := range edgeTerms() {
		for _, a := range acts {
			if len(term.Grid.Rows) > 4 && len(a.Params) == 1 && a.Params[0] > 1 && a.Params[0] < 9 {
				continue
			}
			checkDo(t, term, a)
		}
	}
	someTerms(300, 75, func(term impl.Term, next func(int) int) {
		for range 40 {
			checkDo(t, term, acts[next(len(acts))])
		}
	})
	for _, a := range acts {
		someTerms(8, 76, func(term impl.Term, _ func(int) int) {
			if term.Grid.Cols < 10 {
				checkDo(t, term, a)
			}
		})
	}
}

// someBytes are about as many bytes, of letters, controls, signs and what is none of these, in no order.
func someBytes(count int, next func(int) int) string {
	pieces := []string{
		"a", "b", " ", "c d", "\xc3\xa9", wideText, wideText + wideText, "\xf0\x9f\x98\x80", "\xcc\x81", "\r\n", "\n", "\r", "\b", "\t", "\a", "\x0b", "\x0c", "\x0e", "\x18", "\x7f",
		"\x1b", "\x1b[", "\x1b]", "\x1bD", "\x1bE", "\x1bM", "\x1b7", "\x1b8", "\x1b]title\a", "\x1b]t\x1b\\", "\x1b[m", "\x1b[1;31m", "\x1b[42m", "\x1b[7;45;4m",
		"\x1b[?7l", "\x1b[?7h", "\x1b[?25l", "\x1b[?25h", "\x1b[?1049h", "\x1b[?1049l", "\x1b[?7;1049h", "\xff", "\xe4", "\xe4\xb8", "\xf0\x9f", "\x80",
	}
	signs := "ABCDGdHfJKLM@PXSTrHH"
	var text strings.Builder
	for text.Len() < count {
		switch next(8) {
		case 0, 1:
			fmt.Fprintf(&text, "\x1b[%d%c", next(8), signs[next(len(signs))])
		case 2:
			fmt.Fprintf(&text, "\x1b[%d;%d%c", next(7), next(10), signs[next(len(signs))])
		case 3:
			text.WriteByte(byte(next(256)))
		case 4:
			if next(25) == 0 {
				text.WriteString("\x1bc")
			}
		default:
			text.WriteString(pieces[next(len(pieces))])
		}
	}
	return text.String()
}

func TestTextsAreWrittenAsByHand(t *testing.T) {
	someTerms(1500, 77, func(term impl.Term, next func(int) int) {
		checkWrite(t, term, someBytes(1+next(60), next))
	})
	met := map[rest]int{}
	someTerms(60, 78, func(term impl.Term, next func(int) int) {
		text := someBytes(1000, next)
		checkWrite(t, term, text)
		for at := range len(text) {
			term = impl.Write(term, text[at:at+1])
			met[rest{full: term.Full, wrap: term.Wrap, away: term.Away, hidden: term.Hidden}]++
		}
	})
	if len(met) != 16 {
		t.Error(met)
	}
}

// Whatever is done and written to a right screen, it stays right; an answer is the next one's argument.
func TestATermStaysRight(t *testing.T) {
	acts, wrong := knownActions(), wrongActions()
	someTerms(150, 79, func(term impl.Term, next func(int) int) {
		for range 60 {
			was := term
			switch next(8) {
			case 0:
				term = impl.Refit(term, int64(1+next(12)), int64(1+next(8)))
			case 1:
				term = impl.Do(term, wrong[next(len(wrong))])
			case 2, 3, 4:
				term = impl.Do(term, acts[next(len(acts))])
			default:
				term = impl.Write(term, someBytes(1+next(40), next))
			}
			if !impl.TermOk(term) || !termOkOf(term) {
				t.Fatalf("%s\nis behind\n%s", tellTerm(term), tellTerm(was))
			}
		}
	})
}

// checkWrittenInParts holds a text that is written at once against its parts, cut at those places.
func checkWrittenInParts(t *testing.T, term impl.Term, text string, cuts ...int) {
	t.Helper()
	whole, part, from := impl.Write(term, text), term, 0
	for _, to := range append(cuts, len(text)) {
		part, from = impl.Write(part, text[from:to]), to
	}
	checkTerm(t, term, []any{text, cuts}, part, whole)
}

func TestATextIsWrittenAsItsParts(t *testing.T) {
	someTerms(150, 80, func(term impl.Term, next func(int) int) {
		text := someBytes(1+next(50), next)
		for one := range len(text) + 1 {
			checkWrittenInParts(t, term, text, one)
			checkWrittenInParts(t, term, text, one, one+next(len(text)-one+1))
		}
	})
	text := "a" + wideText + "\xf0\x9f\x98\x80\x1b[1;31mb\x1b]t" + wideText + "\x1b\\\x1b[?1049h\xe4\xb8\x1b[2;2Hc\x1b7\x1bE"
	var each []int
	for one := range len(text) + 1 {
		each = append(each, one)
		for two := one; two <= len(text); two++ {
			checkWrittenInParts(t, newOf(5, 3), text, one, two)
		}
	}
	checkWrittenInParts(t, newOf(5, 3), text, each...)
}

func TestATextIsWrittenAsWhatItTells(t *testing.T) {
	someTerms(200, 81, func(term impl.Term, next func(int) int) {
		text, each := someBytes(1+next(80), next), term
		f, p := term.Feeder, term.Parser
		for at := range len(text) {
			var runes []int64
			f, runes = impl.Feed(f, text[at])
			for _, r := range runes {
				var acts []impl.Action
				p, acts = impl.Step(p, r)
				for _, a := range acts {
					each = impl.Do(each, a)
				}
			}
		}
		each.Feeder, each.Parser = f, p
		checkTerm(t, term, text, impl.Write(term, text), each)
	})
}

func TestOfLinesTheLastOnesAreSeen(t *testing.T) {
	next := numbersFrom(82)
	for _, size := range [][2]int64{{1, 1}, {1, 4}, {2, 3}, {5, 2}, {7, 5}, {20, 5}, {60, 30}} {
		cols, rows := size[0], int(size[1])
		term, lines := newOf(cols, size[1]), []string{}
		for count := 1; count <= 4*rows; count++ {
			line := string([]byte{byte('a' + count%26)}) + strings.Repeat(wideText, next(int(cols+1)/2)) + strings.Repeat("z", next(2))
			lines = append(lines, impl.Fitting(line, cols))
			text := []string{"\x1b[1;32m", "\x1b[K", "\a", ""}[next(4)] + lines[count-1]
			if count > 1 {
				text = "\r\n" + text
			}
			checkWrittenInParts(t, term, text, next(len(text)))
			term = impl.Write(term, text)
			seen := lines[max(0, count-rows):]
			want := strings.Join(seen, "\n") + strings.Repeat("\n", rows-len(seen)+1)
			if got := impl.GridText(term.Grid); got != want || term.Row != int64(len(seen)-1) {
				t.Fatalf("%v: %q, not %q", size, got, want)
			}
		}
	}
}

func TestWriteUpToTheMostBytes(t *testing.T) {
	for _, n := range []int{0, 1, 1999, 2000, 2001, 2002, 4000, 4096, 65536, 65537} {
		for _, piece := range []string{"a", "\n", "\xff", "\x80", wideText, "\xe4\xb8", "\x1b[", "\x1b]", "\x00", "\x1b[Lb"} {
			text := strings.Repeat(piece, n)[:n]
			got := impl.Write(newOf(7, 4), text)
			if impl.TermOk(got) != (n <= 2000) {
				t.Errorf("%d bytes of %q: %s", n, piece, tellTerm(got))
			}
			if n < 3000 {
				checkWrite(t, newOf(7, 4), text)
			}
			if n > 2000 && !sameTerm(got, impl.Term{}) {
				t.Errorf("%d bytes of %q: %s", n, piece, tellTerm(got))
			}
		}
	}
	held := newOf(7, 4)
	held.Feeder.Held = "\xf0\x9f\x98"
	for _, piece := range []string{"a", "\xff", "\x80", "\xe4", "\xf0\x9f\x98"} {
		checkWrite(t, held, strings.Repeat(piece, 2000)[:2000])
	}
}

func TestNothingWrittenIsTheTermItself(t *testing.T) {
	someTerms(500, 83, func(term impl.Term, _ func(int) int) {
		if got := impl.Write(term, ""); !sameTerm(got, term) {
			t.Fatalf("%s, not %s", tellTerm(got), tellTerm(term))
		}
	})
}

func TestBytesThatAreNoLettersOrHalfOfOne(t *testing.T) {
	for text, want := range map[string][2]string{
		"\xff": {"\xef\xbf\xbd", ""}, "a\x80b": {"a\xef\xbf\xbdb", ""}, "\xe4": {"", "\xe4"}, "\xe4\xb8": {"", "\xe4\xb8"}, "\xe4\xb8\x80": {wideText, ""}, "\xe4\xb8a": {"\xef\xbf\xbd\xef\xbf\xbda", ""},
		"\xf0\x9f\x98": {"", "\xf0\x9f\x98"}, "\xf0\x9f\x98\x80": {"\xf0\x9f\x98\x80", ""}, "\xf0\x9f\x98\xe4": {"\xef\xbf\xbd\xef\xbf\xbd\xef\xbf\xbd", "\xe4"}, "\xc0\x80": {"\xef\xbf\xbd\xef\xbf\xbd", ""}, "\xed\xa0\x80": {"\xef\xbf\xbd\xef\xbf\xbd\xef\xbf\xbd", ""},
		"\xe4\x1b[1Gb": {"b", ""}, "\x1b[\xe4\xb8\x80b": {"b", ""}, "\x1b]\xe4\xb8": {"", "\xe4\xb8"},
	} {
		got := impl.Write(newOf(9, 1), text)
		if impl.GridText(got.Grid) != want[0]+"\n" || got.Feeder.Held != want[1] {
			t.Errorf("%q: %s", text, tellTerm(got))
		}
		checkWrite(t, newOf(9, 1), text)
		held := newOf(9, 1)
		held.Feeder.Held = "\xe4\xb8"
		checkWrite(t, held, text)
	}
}

func TestRefitToSomeSizes(t *testing.T) {
	full := "abcd\r\nefgh\r\nijkl"
	for _, c := range []struct {
		text  string
		cols  int64
		rows  int64
		shown string
		row   int64
		col   int64
	}{
		{full, 4, 3, "abcd/efgh/ijkl/", 2, 3},
		{full, 4, 2, "efgh/ijkl/", 1, 3},
		{full, 4, 1, "ijkl/", 0, 3},
		{full, 2, 3, "ab/ef/ij/", 2, 1},
		{full, 1, 1, "i/", 0, 0},
		{full, 6, 5, "abcd/efgh/ijkl///", 2, 3},
		{full, 60, 30, "abcd/efgh/ijkl" + strings.Repeat("/", 28), 2, 3},
		{full + "[2;2H", 4, 2, "efgh/ijkl/", 0, 1},
		{full + "[1;3H", 4, 2, "efgh/ijkl/", 0, 2},
		{full + "[1;3H", 4, 1, "ijkl/", 0, 2},
		{full + "[3;2H", 4, 1, "ijkl/", 0, 1},
		{full + "[2;4H", 3, 3, "abc/efg/ijk/", 1, 2},
		{full + "[2;4H", 5, 4, "abcd/efgh/ijkl//", 1, 3},
		{"aWb", 2, 3, "a///", 0, 1},
		{"aWb", 3, 3, "aW///", 0, 2},
		{full + "[?1049h", 2, 2, "//", 1, 1},
	} {
		text := strings.NewReplacer("[", "\x1b[", "W", wideText).Replace(c.text)
		got := impl.Refit(impl.Write(newOf(4, 3), text), c.cols, c.rows)
		shown := strings.NewReplacer("/", "\n", "W", wideText).Replace(c.shown)
		if impl.GridText(got.Grid) != shown || got.Row != c.row || got.Col != c.col || got.Full || got.Top != 0 || got.Bottom != c.rows-1 {
			t.Errorf("%q to %d times %d: %s", c.text, c.cols, c.rows, tellTerm(got))
		}
	}
}

// Row alone goes up with the rows: what is saved only comes within.
func TestRefitOfWhatIsSavedAndOfTheMargins(t *testing.T) {
	term := newOf(6, 5)
	term.Row, term.Col, term.SavedRow, term.SavedCol, term.SavedStyle = 3, 4, 3, 4, redStyle
	term.Top, term.Bottom, term.Away, term.Hidden, term.Wrap, term.Title = 2, 3, true, true, false, []int64{'t'}
	term.Other = impl.Write(newOf(6, 5), "a\r\nb\r\nc\r\nd\r\n").Grid
	for _, c := range [][6]int64{{6, 5, 3, 4, 3, 4}, {6, 4, 2, 4, 3, 4}, {6, 3, 1, 4, 2, 4}, {6, 1, 0, 4, 0, 4}, {4, 5, 3, 3, 3, 3}, {1, 2, 0, 0, 1, 0}, {9, 9, 3, 4, 3, 4}} {
		got, want := impl.Refit(term, c[0], c[1]), copyOfTerm(term)
		want.Grid, want.Other = blankGrid(c[0], c[1]), resizedOf(term.Other, c[0], c[1])
		want.Row, want.Col, want.SavedRow, want.SavedCol, want.Top, want.Bottom = c[2], c[3], c[4], c[5], 0, c[1]-1
		checkTerm(t, term, c, got, want)
	}
}

func TestRefitToEachSize(t *testing.T) {
	for cols := int64(-1); cols <= 62; cols += 3 {
		for rows := int64(-1); rows <= 32; rows++ {
			checkRefit(t, termOf(4, 3, numbersFrom(84)), cols, rows)
		}
	}
	someTerms(400, 85, func(term impl.Term, next func(int) int) {
		for range 5 {
			checkRefit(t, term, int64(next(12)), int64(next(9)))
		}
		checkRefit(t, term, int64(59+next(3)), int64(29+next(3)))
	})
	for _, term := range append(edgeTerms(), fullTerm()) {
		for _, far := range append([]int64{0}, farNumbers...) {
			for _, other := range []int64{0, 1, 3, 30, 60, -1} {
				checkRefit(t, term, far, other)
				checkRefit(t, term, other, far)
			}
		}
	}
}

func TestRefitToItsOwnSizeKeepsTheLetters(t *testing.T) {
	someTerms(500, 86, func(term impl.Term, _ func(int) int) {
		want := copyOfTerm(term)
		want.Top, want.Bottom, want.Full = 0, int64(len(term.Grid.Rows))-1, false
		checkTerm(t, term, "Refit", impl.Refit(term, term.Grid.Cols, int64(len(term.Grid.Rows))), want)
	})
}

// allTerms is what comes of a Term by each function, also where nothing of it is another.
func allTerms(term impl.Term, acts []impl.Action) []impl.Term {
	var all []impl.Term
	for _, a := range acts {
		all = append(all, impl.Do(term, a))
	}
	for _, text := range []string{"", "a", "\x07", "\x1b\\", "m", "5;6", "\xe4", "\x1bc", "\x1b[1;2", "\x1b]ab\ax\x1b]cd", "\x18\x1b[?1049hb\r\n\n\n\n\n\x1b[2Lc\x1b]t", "\x18\x1b[S\x1b[2;3r\x1b[T\x1b[@\x1b[P\x1b[K", strings.Repeat("a", 2001)} {
		all = append(all, impl.Write(term, text))
	}
	for _, size := range [][2]int64{{6, 4}, {3, 4}, {6, 2}, {9, 9}, {0, 4}} {
		all = append(all, impl.Refit(term, size[0], size[1]))
	}
	fresh, _ := impl.NewTerm(6, 4)
	return append(all, fresh)
}

// spoilers are one for each list that can be reached through a Term; each writes over all of that and the room behind it.
func spoilers(term impl.Term) []func() {
	var all []func()
	for _, g := range []impl.Grid{term.Grid, term.Other} {
		for _, row := range g.Rows {
			all = append(all, func() { spoil(row) })
		}
		all = append(all, func() { clear(g.Rows[:cap(g.Rows)]) })
	}
	for _, list := range [][]int64{term.Title, term.Parser.Params, term.Parser.Text} {
		all = append(all, func() {
			for i := range list[:cap(list)] {
				list[:cap(list)][i] = -9
			}
		})
	}
	return all
}

// roomyTerms have their rows and lists within longer ones; some of these are in two places.
func roomyTerms() (terms []impl.Term, room []impl.Cell, rows [][]impl.Cell, numbers []int64) {
	rows, room = roomyRows()
	numbers = []int64{-1, 5, 12, 7, 0, 9, -2, -3, -4}
	for _, p := range []impl.Parser{inGround(), {State: 3, Params: numbers[1:4], Text: numbers[:0]}, {State: 3, Params: numbers[1:1], Mark: 63}, {State: 4, Text: numbers[1:4]}, {State: 5, Text: numbers[2:5]}} {
		term := newOf(6, 4)
		term.Grid.Rows, term.Other.Rows = rows, rows
		term.Title, term.Parser, term.Row, term.Bottom = numbers[1:4], p, 2, 2
		terms = append(terms, term)
	}
	return terms, room, rows[:5], numbers
}

// roomyActions have their lists within the same ones.
func roomyActions(numbers []int64) []impl.Action {
	acts := []impl.Action{
		printed('x'), printed(0x4e00), controlled(10), escaped('c'), escaped('M'), escaped('8'), {Kind: 5, Text: numbers[1:4]}, {Kind: 5, Text: numbers[1:1]}, {Kind: 5, Text: numbers[:3]}, {Kind: 7}, {Kind: 4, Rune: 'z', Params: numbers[1:6]},
		{Kind: 4, Rune: 'm', Params: numbers[1:6]}, {Kind: 4, Rune: 'm', Params: numbers[1:1]}, {Kind: 4, Rune: 'h', Mark: 63, Params: []int64{1049, 1049}}, {Kind: 4, Rune: 'l', Mark: 63, Params: []int64{1049, 25}},
	}
	for _, r := range "HJKLM@PXSTr" {
		acts = append(acts, impl.Action{Kind: 4, Rune: int64(r), Params: numbers[4:5]}, impl.Action{Kind: 4, Rune: int64(r), Params: []int64{2, 3}})
	}
	return acts
}

func TestTermsArgumentsStayAndAnswersAreNew(t *testing.T) {
	terms, room, rows, numbers := roomyTerms()
	acts := roomyActions(numbers)
	cells, grid, list := slices.Clone(room), copyOf(impl.Grid{Rows: rows}), slices.Clone(numbers)
	stays := func() bool {
		return slices.Equal(room, cells) && sameGrid(impl.Grid{Rows: rows}, grid) && slices.Equal(numbers, list)
	}
	for _, term := range terms {
		if !impl.TermOk(term) {
			t.Fatal(tellTerm(term))
		}
		ahead, answers := allTerms(term, acts), allTerms(term, acts)
		if !stays() {
			t.Fatalf("%s: what was handed in was written into", tellTerm(term))
		}
		for i, answer := range answers {
			for _, each := range spoilers(answer) {
				each()
			}
			if !stays() {
				t.Fatalf("%s: answer %d shares with what was handed in", tellTerm(term), i)
			}
		}
		for i, answer := range allTerms(term, acts) {
			if !sameTerm(answer, ahead[i]) {
				t.Fatalf("%s: answer %d shares with another", tellTerm(term), i)
			}
		}
	}
}

// apart gives the lists of a Term one by one, each as it is now.
func apart(term impl.Term) []string {
	var all []string
	for _, g := range []impl.Grid{term.Grid, term.Other} {
		for _, row := range g.Rows {
			all = append(all, fmt.Sprint(row[:cap(row)]))
		}
		all = append(all, fmt.Sprint(len(g.Rows)))
	}
	for _, list := range [][]int64{term.Title, term.Parser.Params, term.Parser.Text} {
		all = append(all, fmt.Sprint(list[:cap(list)]))
	}
	return all
}

func TestNoListOfATermSharesWithAnother(t *testing.T) {
	terms, _, _, numbers := roomyTerms()
	for _, term := range terms {
		for i, answer := range allTerms(term, roomyActions(numbers)) {
			held := copyOfTerm(answer)
			held.Grid.Rows, held.Other.Rows = slices.Clone(answer.Grid.Rows), slices.Clone(answer.Other.Rows)
			held.Title, held.Parser = answer.Title, answer.Parser
			for at, each := range spoilers(answer) {
				before := apart(held)
				each()
				for other, list := range apart(held) {
					if other != at && list != before[other] {
						t.Fatalf("%s: answer %d: lists %d and %d are one", tellTerm(term), i, at, other)
					}
				}
			}
		}
	}
}

// A function of this layer that panics, or doesn't end, on anything here fails by that.
func TestTermsAnswerAtEveryArgument(t *testing.T) {
	acts := slices.Concat(knownActions()[:60], []impl.Action{{}, {Kind: 5, Text: noRunes}, {Kind: 4, Rune: 'H', Params: noRunes}, {Kind: 4, Rune: 'J', Mark: -1}})
	for i, term := range wrongTerms() {
		for _, a := range []impl.Action{acts[i%len(acts)], acts[i*7%len(acts)], acts[i*11%len(acts)], {}, printed('x'), listed('J', 0, 2)} {
			checkTerm(t, term, a, impl.Do(term, a), impl.Term{})
		}
		for _, text := range []string{"", "a", "\n\x1b[2J\x1bc", "\xff", strings.Repeat("a", 2001)} {
			checkTerm(t, term, text, impl.Write(term, text), impl.Term{})
		}
		for _, size := range [][2]int64{{4, 3}, {1, 1}, {60, 30}, {61, 30}, {0, 0}, {term.Grid.Cols, int64(len(term.Grid.Rows))}} {
			checkTerm(t, term, size, impl.Refit(term, size[0], size[1]), impl.Term{})
		}
	}
	for _, term := range []impl.Term{newOf(1, 1), newOf(60, 30), fullTerm()} {
		for _, r := range slices.Concat(edgeSigns, noRunes, farNumbers) {
			for kind := int64(-1); kind <= 7; kind++ {
				checkDo(t, term, impl.Action{Kind: kind, Rune: r, Params: []int64{9999, 9999}})
			}
		}
	}
}

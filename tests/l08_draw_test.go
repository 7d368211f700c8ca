package tests

import (
	"fmt"
	"slices"
	"strings"
	"testing"

	"loop.example/g00215/impl"
)

// drawnRow is by hand what is told of a row, and the style behind it.
func drawnRow(number int, row []impl.Cell, s impl.Style) (string, impl.Style) {
	untold := ""
	told := fmt.Sprintf("\x1b[%d;1H", number+1)
	any := false
	ahead := s
	for _, c := range row {
		if c.Part == 2 {
			continue
		}
		untold += signOf(paramsOf(ahead, c.Style)) + string(rune(c.Rune))
		ahead = c.Style
		if c.Rune != ' ' || c.Style != (impl.Style{}) {
			told, untold, s, any = told+untold, "", ahead, true
		}
	}
	if !any {
		return "", s
	}
	return told, s
}

// drawnOf is Drawn by hand.
func drawnOf(t impl.Term) string {
	if !termOkOf(t) {
		return ""
	}
	told, s := "\x1bc\x1b[?7l", impl.Style{}
	for i, row := range t.Grid.Rows {
		var more string
		more, s = drawnRow(i, row, s)
		told += more
	}
	told += signOf(paramsOf(s, t.Style))
	if t.Wrap {
		told += "\x1b[?7h"
	}
	if rows := len(t.Grid.Rows); rows != int(t.Bottom-t.Top)+1 {
		told += fmt.Sprintf("\x1b[%d;%dr", t.Top+1, t.Bottom+1)
	}
	told += fmt.Sprintf("\x1b[%d;%dH", t.Row+1, t.Col+1)
	if t.Hidden {
		told += "\x1b[?25l"
	}
	return told
}

// sameScreenOf is SameScreen by hand.
func sameScreenOf(a impl.Term, b impl.Term) bool {
	right := termOkOf(a) && termOkOf(b)
	one, two := restOf(a), restOf(b)
	for _, r := range []*rest{&one, &two} {
		r.savedRow, r.savedCol, r.savedStyle, r.full, r.away, r.held = 0, 0, impl.Style{}, false, false, ""
	}
	return right && one == two && sameGrid(a.Grid, b.Grid)
}

// writtenInParts writes a text of any length.
func writtenInParts(term impl.Term, text string) impl.Term {
	for len(text) > impl.MaxWrite {
		term, text = impl.Write(term, text[:impl.MaxWrite]), text[impl.MaxWrite:]
	}
	return impl.Write(term, text)
}

// redrawnOf is by hand what a new screen is behind all that is drawn of a Term.
func redrawnOf(term impl.Term) impl.Term {
	want := newOf(term.Grid.Cols, int64(len(term.Grid.Rows)))
	want.Grid, want.Row, want.Col, want.Style = copyOf(term.Grid), term.Row, term.Col, term.Style
	want.Top, want.Bottom, want.Wrap, want.Hidden = term.Top, term.Bottom, term.Wrap, term.Hidden
	return want
}

// checkDrawn holds what is drawn of a right Term against the chapter done by hand, and a new screen behind it against the Term.
func checkDrawn(t *testing.T, term impl.Term) {
	t.Helper()
	held := copyOfTerm(term)
	drawn := impl.Drawn(term)
	if want := drawnOf(term); drawn != want {
		t.Fatalf("%s\nis drawn %q\nnot %q", tellTerm(term), drawn, want)
	}
	fresh, _ := impl.NewTerm(term.Grid.Cols, int64(len(term.Grid.Rows)))
	again := writtenInParts(fresh, drawn)
	checkTerm(t, term, drawn, again, redrawnOf(term))
	if !impl.SameScreen(term, again) || !impl.SameScreen(again, term) || !sameGrid(impl.Looks(again), term.Grid) {
		t.Fatalf("%s\nis another screen than %s", tellTerm(term), tellTerm(again))
	}
	if impl.Drawn(again) != drawn || !sameTerm(term, held) {
		t.Fatalf("%s\nis drawn otherwise: %q, not %q", tellTerm(again), impl.Drawn(again), drawn)
	}
}

// A picture is what should be drawn of a screen of 4 times 3, all of which a text has made.
type picture struct {
	text  string
	drawn string
}

// checkPictures takes [ for 27 and that, ^ for 27, and W for a rune that is two cells wide.
func checkPictures(t *testing.T, pictures []picture) {
	t.Helper()
	bytes := strings.NewReplacer("[", "\x1b[", "^", "\x1b", "W", wideText)
	for _, p := range pictures {
		term := impl.Write(newOf(4, 3), bytes.Replace(p.text))
		if got, want := impl.Drawn(term), bytes.Replace("^c[?7l"+p.drawn); got != want {
			t.Errorf("%q is drawn %q, not %q", p.text, got, want)
		}
		checkDrawn(t, term)
	}
}

func TestDrawnOfABlankScreen(t *testing.T) {
	checkPictures(t, []picture{
		{"", "[?7h[1;1H"},
		{"[?7l", "[1;1H"},
		{"[?25l", "[?7h[1;1H[?25l"},
		{"[?7;25l", "[1;1H[?25l"},
		{"abc\r    \r\nd[3Hef[2J[H", "[?7h[1;1H"},
		{"            ", "[?7h[3;4H"},
		{"[1m[2J[H", "[1m[?7h[1;1H"},
		{"[1m[2J[H[m", "[?7h[1;1H"},
		{"[31;45m", "[31;45m[?7h[1;1H"},
		{"[31;45m[?7l", "[31;45m[1;1H"},
	})
}

func TestDrawnOfLetters(t *testing.T) {
	checkPictures(t, []picture{
		{"a", "[1;1Ha[?7h[1;2H"},
		{"abcd", "[1;1Habcd[?7h[1;4H"},
		{"abcde", "[1;1Habcd[2;1He[?7h[2;2H"},
		{"  b", "[1;1H  b[?7h[1;4H"},
		{"a b ", "[1;1Ha b[?7h[1;4H"},
		{"[3Ha", "[3;1Ha[?7h[3;2H"},
		{"a[3Hb", "[1;1Ha[3;1Hb[?7h[3;2H"},
		{"[3;4Ha", "[3;1H   a[?7h[3;4H"},
		{"abcdefghijkl", "[1;1Habcd[2;1Hefgh[3;1Hijkl[?7h[3;4H"},
		{"a\xc3\xa9\xef\xbf\xbd\xf0\x92\x80\x80", "[1;1Ha\xc3\xa9\xef\xbf\xbd\xf0\x92\x80\x80[?7h[1;4H"},
		{"a\xc2\xa0", "[1;1Ha\xc2\xa0[?7h[1;3H"},
		{"W", "[1;1HW[?7h[1;3H"},
		{"aW", "[1;1HaW[?7h[1;4H"},
		{"abW", "[1;1HabW[?7h[1;4H"},
		{"WW", "[1;1HWW[?7h[1;4H"},
		{"WaW", "[1;1HWa[2;1HW[?7h[2;3H"},
		{"  W", "[1;1H  W[?7h[1;4H"},
		{"\xe3\x80\x80", "[1;1H\xe3\x80\x80[?7h[1;3H"},
		{"WW[2Gx", "[1;1H xW[?7h[1;3H"},
		{"[?7labcdefW", "[1;1HabW[1;4H"},
	})
}

func TestDrawnOfStyles(t *testing.T) {
	checkPictures(t, []picture{
		{"[1ma", "[1;1H[1ma[?7h[1;2H"},
		{"[1ma[m", "[1;1H[1ma[0m[?7h[1;2H"},
		{"a[1m", "[1;1Ha[1m[?7h[1;2H"},
		{"[1ma[4mb[7mc[31;42md", "[1;1H[1ma[4mb[7mc[31;42md[?7h[1;4H"},
		{"[1ma[0;4mb[0;7mc[0;31md[32;45m", "[1;1H[1ma[22;4mb[24;7mc[27;31md[32;45m[?7h[1;4H"},
		{"[1ma[mb[1mc", "[1;1H[1ma[0mb[1mc[?7h[1;4H"},
		{"[1mabcde", "[1;1H[1mabcd[2;1He[?7h[2;2H"},
		{"[1mabcd[4me", "[1;1H[1mabcd[2;1H[4me[?7h[2;2H"},
		{"[1ma[2Hb[m[3Hc", "[1;1H[1ma[2;1Hb[3;1H[0mc[?7h[3;2H"},
		{"[1ma[m[2Hb[1m[3Hc", "[1;1H[1ma[2;1H[0mb[3;1H[1mc[?7h[3;2H"},
		{"[1ma[m[3H[1mc[m", "[1;1H[1ma[3;1Hc[0m[?7h[3;2H"},
		{"[1mab[m  [2H[1mc", "[1;1H[1mab[2;1Hc[?7h[2;2H"},
		{"[1mW[mW", "[1;1H[1mW[0mW[?7h[1;4H"},
		{"[1ma[m b", "[1;1H[1ma[0m b[?7h[1;4H"},
		{"[1ma [mb", "[1;1H[1ma [0mb[?7h[1;4H"},
		{"[1;4;7;37;47ma[39;49mb[22;24;27m", "[1;1H[1;4;7;37;47ma[39;49mb[0m[?7h[1;3H"},
	})
}

func TestDrawnOfBlanksOfAnotherStyle(t *testing.T) {
	checkPictures(t, []picture{
		{"a[44m[K[m", "[1;1Ha[44m   [0m[?7h[1;2H"},
		{"a[44m[K[m[4G[X", "[1;1Ha[44m  [0m[?7h[1;4H"},
		{"[44m[2X[m[2Cb", "[1;1H[44m  [0mb[?7h[1;4H"},
		{"[44m[2X[m[3Cb", "[1;1H[44m  [0m b[?7h[1;4H"},
		{"a[44m[X[m[2Cb", "[1;1Ha[44m [0m b[?7h[1;4H"},
		{"[44m[4X[m", "[1;1H[44m    [0m[?7h[1;1H"},
		{"[44m[4X", "[1;1H[44m    [?7h[1;1H"},
		{"[44m[2J[m", "[1;1H[44m    [2;1H    [3;1H    [0m[?7h[1;1H"},
		{"[44m[2J", "[1;1H[44m    [2;1H    [3;1H    [?7h[1;1H"},
		{"[2H[44m[2K[H[m", "[2;1H[44m    [0m[?7h[1;1H"},
		{"[4m [m", "[1;1H[4m [0m[?7h[1;2H"},
		{"[30m [m", "[1;1H[30m [0m[?7h[1;2H"},
		{"[4G[7m [m", "[1;1H   [7m [0m[?7h[1;4H"},
	})
}

func TestDrawnOfPlaces(t *testing.T) {
	checkPictures(t, []picture{
		{"[1;4H", "[?7h[1;4H"},
		{"[3;1H", "[?7h[3;1H"},
		{"[3;4H", "[?7h[3;4H"},
		{"[2;3H", "[?7h[2;3H"},
		{"a[1;3r", "[1;1Ha[?7h[1;1H"},
		{"[1;2r", "[?7h[1;2r[1;1H"},
		{"[2;3r", "[?7h[2;3r[1;1H"},
		{"[2;3r[3;4H", "[?7h[2;3r[3;4H"},
		{"a[2;3r[?7;25lb[2;2H[1m", "[1;1Hb[1m[2;3r[2;2H[?25l"},
	})
	four := impl.Write(newOf(2, 4), "\x1b[2;3r\x1b[4;2H")
	if got := impl.Drawn(four); got != "\x1bc\x1b[?7l\x1b[?7h\x1b[2;3r\x1b[4;2H" {
		t.Errorf("%q", got)
	}
	checkDrawn(t, four)
}

// What is saved, the other grid, Full and the Title leave no trace in what is drawn.
func TestWhatIsNotDrawn(t *testing.T) {
	checkPictures(t, []picture{
		{"abcd\r[3C", "[1;1Habcd[?7h[1;4H"},
		{"abcd", "[1;1Habcd[?7h[1;4H"},
		{"[3;4H[1m^7[m[H", "[?7h[1;1H"},
		{"^]ti\aa", "[1;1Ha[?7h[1;2H"},
		{"ab[?1049hc", "[1;1H  c[?7h[1;4H"},
		{"[?1049hab[?1049l", "[?7h[1;3H"},
		{"a[12;3", "[1;1Ha[?7h[1;2H"},
		{"a\xe4\xb8", "[1;1Ha[?7h[1;2H"},
	})
	someTerms(800, 91, func(term impl.Term, next func(int) int) {
		if got, want := impl.Drawn(unasked(term, next)), impl.Drawn(term); got != want {
			t.Fatalf("%s\nis drawn %q, not %q", tellTerm(term), got, want)
		}
	})
}

// unasked is a Term of which only that is another which SameScreen does not ask for.
func unasked(term impl.Term, next func(int) int) impl.Term {
	other := termOf(int(term.Grid.Cols), len(term.Grid.Rows), next)
	other.Grid, other.Row, other.Col, other.Style = term.Grid, term.Row, term.Col, term.Style
	other.Top, other.Bottom, other.Wrap, other.Hidden = term.Top, term.Bottom, term.Wrap, term.Hidden
	other.Full = term.Col == term.Grid.Cols-1 && next(2) == 0
	return other
}

// paintedRow is that many cells of letters and blanks; the styles are any, often those of the cell ahead, and often zero.
func paintedRow(cols int, next func(int) int) []impl.Cell {
	styles, s := rightStyles(), impl.Style{}
	letters := []int64{32, 32, 32, 33, 126, 160, 767, 880, 0x20ac, 0xfffd, 0x10000, 0x10ffff, 4352, 4447, 12288, 55295, 127744, 131071}
	var row []impl.Cell
	for len(row) < cols {
		switch next(4) {
		case 0:
			s = styles[next(len(styles))]
		case 1:
			s = impl.Style{}
		}
		if r := letters[next(len(letters))]; widthOf(r) == 1 {
			row = append(row, whole(r, s)...)
		} else if len(row)+2 <= cols {
			row = append(row, wide(r, s)...)
		}
	}
	return row
}

// paintedTerm is a right Term of that size, with painted rows, some of which are blank from some cell on.
func paintedTerm(cols int, rows int, next func(int) int) impl.Term {
	term := termOf(cols, rows, next)
	for at := range term.Grid.Rows {
		row := paintedRow(cols, next)
		if next(2) == 0 {
			row = clearedOf(row, int64(next(cols)), int64(cols), impl.Style{})
		}
		if next(4) == 0 {
			row = blanks(int64(cols), impl.Style{})
		}
		term.Grid.Rows[at] = row
	}
	return term
}

func TestWhateverIsDrawnMakesTheSameScreen(t *testing.T) {
	for _, term := range append(edgeTerms(), fullTerm()) {
		checkDrawn(t, term)
	}
	someTerms(1500, 92, func(term impl.Term, next func(int) int) {
		checkDrawn(t, term)
		checkDrawn(t, paintedTerm(int(term.Grid.Cols), len(term.Grid.Rows), next))
	})
}

func TestDrawnOfEachShortRow(t *testing.T) {
	for cols := 1; cols <= 6; cols++ {
		eachRow(cols, func(row []impl.Cell) {
			term := newOf(int64(cols), 2)
			term.Grid.Rows[len(row)%2] = row
			checkDrawn(t, term)
		})
	}
}

// Two rows, each of one cell: what the one leaves is what the other one, and the Term's own style, begin with.
func TestDrawnOfEachStyleBehindAnother(t *testing.T) {
	some := []impl.Style{{}, boldStyle, redStyle, backStyle, fullStyle, {Turned: true}, {Fore: 1, Back: 1}}
	for _, s := range rightStyles() {
		term := newOf(1, 2)
		term.Style = s
		checkDrawn(t, term)
		for _, other := range some {
			term.Grid.Rows = [][]impl.Cell{whole('a', other), whole('b', s)}
			term.Style = impl.Style{}
			checkDrawn(t, term)
			term.Grid.Rows = [][]impl.Cell{whole(32, s), whole(32, other)}
			term.Style = s
			checkDrawn(t, term)
		}
	}
}

func TestDrawnOfEachPlace(t *testing.T) {
	for _, size := range [][2]int64{{1, 1}, {4, 1}, {1, 2}, {3, 2}, {2, 5}, {13, 12}} {
		cols, rows := size[0], size[1]
		for row := range rows {
			for col := range cols {
				term := newOf(cols, rows)
				term.Row, term.Col, term.Hidden, term.Wrap = row, col, (row+col)%2 == 0, row%2 == 0
				if rows > 1 {
					term.Top = row % (rows - 1)
					term.Bottom = term.Top + 1 + col%(rows-1-term.Top)
				}
				checkDrawn(t, term)
			}
		}
	}
	for _, place := range [][2]int64{{0, 0}, {0, 59}, {29, 0}, {29, 59}, {9, 9}, {10, 10}} {
		term := newOf(60, 30)
		term.Row, term.Col = place[0], place[1]
		checkDrawn(t, term)
	}
}

func TestDrawnOfEachMargin(t *testing.T) {
	for rows := int64(1); rows <= 30; rows += 1 + rows/4 {
		for top := range rows {
			for bottom := top + 1; bottom < rows; bottom++ {
				term := newOf(3, rows)
				term.Top, term.Bottom, term.Row, term.Col = top, bottom, bottom, 2
				checkDrawn(t, term)
			}
		}
	}
}

// What is drawn begins anew: also on a screen on which anything stands, the same comes of it.
func TestDrawnOverAnyScreen(t *testing.T) {
	someTerms(500, 93, func(term impl.Term, next func(int) int) {
		other := termOf(int(term.Grid.Cols), len(term.Grid.Rows), next)
		other.Parser, other.Feeder = inGround(), impl.Feeder{}
		want := redrawnOf(term)
		want.Title = other.Title
		checkTerm(t, term, "over another", writtenInParts(other, impl.Drawn(term)), want)
	})
}

// Ahead of each letter its style is told: these are the most bytes that a screen can take, and the fewest beside none.
func TestDrawnOfTheGreatestSize(t *testing.T) {
	term := newOf(60, 30)
	term.Row, term.Col, term.Top, term.Bottom, term.Hidden = 29, 59, 9, 28, true
	checkDrawn(t, term)
	for i := range 1800 {
		s := impl.Style{Fore: int64(i % 9), Back: int64(i / 2 % 9), Bold: i%2 == 0, Under: i%2 == 1, Turned: i%2 == 0}
		term.Grid.Rows[i/60][i%60] = impl.Cell{Rune: 0x10000 + int64(i), Style: s}
	}
	checkDrawn(t, term)
	if n := len(impl.Drawn(term)); n < 1800*10 {
		t.Error(n)
	}
	for at := range term.Grid.Rows {
		term.Grid.Rows[at] = slices.Repeat(wide(0x1f600+int64(at), boldStyle), 30)
	}
	checkDrawn(t, term)
}

// At most MaxWrite bytes are written at once: a screen of so many letters as that allows is made by one Write, and one letter more is too many.
func TestDrawnWrittenAtOnce(t *testing.T) {
	lengths := map[int]bool{}
	for n := 1700; n <= 1800; n++ {
		term := newOf(60, 30)
		for i := range n {
			term.Grid.Rows[i/60][i%60].Rune = int64(33 + i%90)
		}
		drawn := impl.Drawn(term)
		lengths[len(drawn)] = true
		want := redrawnOf(term)
		if len(drawn) > 2000 {
			want = impl.Term{}
		}
		checkTerm(t, term, n, impl.Write(newOf(60, 30), drawn), want)
	}
	if !lengths[1999] || !lengths[2000] || !lengths[2001] {
		t.Error(lengths)
	}
	someTerms(300, 96, func(term impl.Term, _ func(int) int) {
		if drawn := impl.Drawn(term); len(drawn) <= 2000 {
			checkTerm(t, term, drawn, writeOf(newOf(term.Grid.Cols, int64(len(term.Grid.Rows))), drawn), redrawnOf(term))
		}
	})
}

func TestLooks(t *testing.T) {
	for _, term := range append(edgeTerms(), fullTerm()) {
		if got := impl.Looks(term); !sameGrid(got, term.Grid) || !impl.GridOk(got) {
			t.Fatal(tellTerm(term), got)
		}
	}
	someTerms(1000, 94, func(term impl.Term, _ func(int) int) {
		if got := impl.Looks(term); !sameGrid(got, term.Grid) {
			t.Fatal(tellTerm(term), got)
		}
	})
	away := impl.Write(newOf(4, 3), "ab\x1b[?1049hc")
	if got := impl.GridText(impl.Looks(away)); got != "  c\n\n\n" {
		t.Errorf("%q", got)
	}
}

// checkSame holds SameScreen of two, either way round.
func checkSame(t *testing.T, what string, a impl.Term, b impl.Term, want bool) {
	t.Helper()
	if impl.SameScreen(a, b) != want || impl.SameScreen(b, a) != want || sameScreenOf(a, b) != want {
		t.Fatalf("%s: not %v of %s\nand %s", what, want, tellTerm(a), tellTerm(b))
	}
}

func TestAScreenIsTheSameAsItself(t *testing.T) {
	for _, term := range append(edgeTerms(), fullTerm()) {
		checkSame(t, "itself", term, term, true)
		checkSame(t, "a copy", term, copyOfTerm(term), true)
	}
	someTerms(1000, 95, func(term impl.Term, next func(int) int) {
		checkSame(t, "a copy", term, copyOfTerm(term), true)
		checkSame(t, "what is not asked", term, unasked(term, next), true)
	})
}

// partings are what makes of a Term of 4 times 3, with a letter and a wide rune in its second row, a right one that differs in one thing alone.
func partings() map[string]func(*impl.Term) {
	return map[string]func(*impl.Term){
		"Rune":            func(t *impl.Term) { t.Grid.Rows[1][0].Rune = 'b' },
		"Rune, blank":     func(t *impl.Term) { t.Grid.Rows[1][0].Rune = ' ' },
		"Rune, wide":      func(t *impl.Term) { t.Grid.Rows[1][1].Rune++ },
		"Rune, last cell": func(t *impl.Term) { t.Grid.Rows[2][3].Rune = 'z' },
		"Rune, first":     func(t *impl.Term) { t.Grid.Rows[0][0].Rune = 'z' },
		"Part":            func(t *impl.Term) { copy(t.Grid.Rows[1][1:], blanks(2, boldStyle)) },
		"Fore":            func(t *impl.Term) { t.Grid.Rows[1][0].Style.Fore = 1 },
		"Back":            func(t *impl.Term) { t.Grid.Rows[1][0].Style.Back = 8 },
		"Bold":            func(t *impl.Term) { t.Grid.Rows[1][0].Style.Bold = true },
		"Under":           func(t *impl.Term) { t.Grid.Rows[2][3].Style.Under = true },
		"Turned":          func(t *impl.Term) { t.Grid.Rows[0][0].Style.Turned = true },
		"wide Style":      func(t *impl.Term) { copy(t.Grid.Rows[1][1:], wide(0x4e00, backStyle)) },
		"Row":             func(t *impl.Term) { t.Row = 2 },
		"Col":             func(t *impl.Term) { t.Col = 2 },
		"Style, Fore":     func(t *impl.Term) { t.Style.Fore = 1 },
		"Style, Back":     func(t *impl.Term) { t.Style.Back = 1 },
		"Style, Bold":     func(t *impl.Term) { t.Style.Bold = true },
		"Style, Under":    func(t *impl.Term) { t.Style.Under = true },
		"Style, Turned":   func(t *impl.Term) { t.Style.Turned = true },
		"Top":             func(t *impl.Term) { t.Top = 1 },
		"Bottom":          func(t *impl.Term) { t.Bottom = 1 },
		"Wrap":            func(t *impl.Term) { t.Wrap = false },
		"Hidden":          func(t *impl.Term) { t.Hidden = true },
	}
}

// unheard are what makes of such a Term a right one that differs in what SameScreen does not ask for.
func unheard() map[string]func(*impl.Term) {
	return map[string]func(*impl.Term){
		"Other":         func(t *impl.Term) { t.Other.Rows[1][1].Rune = 'x' },
		"Other's Style": func(t *impl.Term) { t.Other.Rows[2][3].Style = fullStyle },
		"Full":          func(t *impl.Term) { t.Full = true },
		"Away":          func(t *impl.Term) { t.Away = true },
		"SavedRow":      func(t *impl.Term) { t.SavedRow = 2 },
		"SavedCol":      func(t *impl.Term) { t.SavedCol = 3 },
		"SavedStyle":    func(t *impl.Term) { t.SavedStyle = fullStyle },
		"Title":         func(t *impl.Term) { t.Title = rising(40) },
		"State":         func(t *impl.Term) { t.Parser.State = 2 },
		"Params":        func(t *impl.Term) { t.Parser = inList(0, 5, 6) },
		"Mark":          func(t *impl.Term) { t.Parser = inList(63) },
		"Text":          func(t *impl.Term) { t.Parser = inString(65, 66) },
		"Feeder":        func(t *impl.Term) { t.Feeder.Held = "\xe4\xb8" },
	}
}

func partedTerm() impl.Term {
	term := newOf(4, 3)
	term.Grid.Rows[1] = rowOf(whole('a', impl.Style{}), wide(0x4e00, boldStyle), blanks(1, impl.Style{}))
	term.Row, term.Col = 1, 3
	return term
}

func TestScreensThatPartInOneThing(t *testing.T) {
	for what, change := range partings() {
		term := partedTerm()
		change(&term)
		checkSame(t, what, partedTerm(), term, false)
		checkSame(t, what, term, copyOfTerm(term), true)
		checkDrawn(t, term)
		if impl.Drawn(term) == impl.Drawn(partedTerm()) {
			t.Errorf("%s: drawn alike", what)
		}
	}
	for what, change := range unheard() {
		term := partedTerm()
		change(&term)
		if sameTerm(term, partedTerm()) || !termOkOf(term) {
			t.Fatal(what, tellTerm(term))
		}
		checkSame(t, what, partedTerm(), term, true)
		checkDrawn(t, term)
	}
}

func TestScreensOfOtherSizes(t *testing.T) {
	sizes := [][2]int64{{1, 1}, {1, 2}, {2, 1}, {2, 2}, {2, 3}, {3, 2}, {59, 30}, {60, 29}, {60, 30}}
	for i, one := range sizes {
		for j, two := range sizes {
			a, b := newOf(one[0], one[1]), newOf(two[0], two[1])
			checkSame(t, "new ones", a, b, i == j)
			if one[1] > 1 && two[1] > 1 {
				a.Bottom, b.Bottom = 1, 1
				checkSame(t, "of one Bottom", a, b, i == j)
			}
		}
	}
}

func TestSameScreenAsByHand(t *testing.T) {
	alike := 0
	for round := range 3000 {
		next := numbersFrom(uint64(round))
		a := termOf(1+next(2), 1+next(2), next)
		b := unasked(a, next)
		b.Grid = copyOf(a.Grid)
		switch next(8) {
		case 0:
			b = termOf(1+next(2), 1+next(2), next)
		case 1:
			b.Grid = mixedGrid(int(a.Grid.Cols), len(a.Grid.Rows), next)
		case 2:
			b.Row, b.Col, b.Full = int64(next(3)-1), int64(next(3)-1), false
		case 3:
			b.Top, b.Bottom = int64(next(2)), int64(next(3))
		case 4:
			b.Grid.Rows[0][0] = impl.Cell{Rune: int64(31 + next(3))}
		}
		want := sameScreenOf(a, b)
		if want {
			alike++
		}
		checkSame(t, "some", a, b, want)
	}
	if alike < 500 || alike > 2500 {
		t.Error(alike)
	}
}

func TestNothingIsDrawnOfAWrongTerm(t *testing.T) {
	right := newOf(4, 3)
	for _, term := range wrongTerms() {
		if got := impl.Drawn(term); got != "" {
			t.Fatalf("%s\nis drawn %q", tellTerm(term), got)
		}
		if got := impl.Looks(term); !sameGrid(got, impl.Grid{}) {
			t.Fatalf("%s\nlooks %v", tellTerm(term), got)
		}
		checkSame(t, "a wrong one", right, term, false)
		checkSame(t, "a wrong one and itself", term, term, false)
		checkSame(t, "a wrong one and its copy", term, copyOfTerm(term), false)
		if fresh, ok := impl.NewTerm(term.Grid.Cols, int64(len(term.Grid.Rows))); ok {
			checkSame(t, "a wrong one of that size", fresh, term, false)
		}
	}
	if impl.Drawn(impl.Term{}) != "" || impl.SameScreen(impl.Term{}, impl.Term{}) {
		t.Error("the zero Term")
	}
}

func TestDrawingsArgumentsStayAndLooksAreNew(t *testing.T) {
	terms, room, rows, numbers := roomyTerms()
	cells, grid, list := slices.Clone(room), copyOf(impl.Grid{Rows: rows}), slices.Clone(numbers)
	stays := func() bool {
		return slices.Equal(room, cells) && sameGrid(impl.Grid{Rows: rows}, grid) && slices.Equal(numbers, list)
	}
	for _, term := range terms {
		held, drawn, looks := copyOfTerm(term), impl.Drawn(term), impl.Looks(term)
		if !impl.SameScreen(term, held) || !stays() || !sameTerm(term, held) || drawn != drawnOf(held) {
			t.Fatal("what was handed in was written into", tellTerm(term))
		}
		for at := range looks.Rows {
			other := impl.Looks(term)
			spoil(other.Rows[at])
			other.Rows[at] = looks.Rows[at]
			if !sameGrid(other, held.Grid) {
				t.Fatal("rows share with one another", at)
			}
			clear(other.Rows[:cap(other.Rows)])
		}
		for _, row := range looks.Rows {
			spoil(row)
		}
		clear(looks.Rows[:cap(looks.Rows)])
		if !stays() || !sameTerm(term, held) || impl.Drawn(term) != drawn {
			t.Fatal("an answer shares with what was handed in", tellTerm(term))
		}
	}
}

package tests

import (
	"fmt"
	"math"
	"slices"
	"strconv"
	"strings"
	"testing"

	"loop.example/g00215/impl"
)

func changeAt(row int64, from int64, cells ...impl.Cell) impl.Change {
	return impl.Change{Row: row, From: from, Cells: cells}
}

func patchOf(cols int64, rows int64, changes ...impl.Change) impl.Patch {
	return impl.Patch{Cols: cols, Rows: rows, Changes: changes}
}

func samePatch(a impl.Patch, b impl.Patch) bool {
	return a.Cols == b.Cols && a.Rows == b.Rows && slices.EqualFunc(a.Changes, b.Changes, func(c impl.Change, d impl.Change) bool {
		return c.Row == d.Row && c.From == d.From && slices.Equal(c.Cells, d.Cells)
	})
}

func copyOfPatch(p impl.Patch) impl.Patch {
	made := patchOf(p.Cols, p.Rows)
	for _, c := range p.Changes {
		made.Changes = append(made.Changes, changeAt(c.Row, c.From, slices.Clone(c.Cells)...))
	}
	return made
}

// diffOf is Diff by hand: each unlike cell begins a Change where the one ahead of it is alike, else it comes to the last one.
func diffOf(a impl.Grid, b impl.Grid) (impl.Patch, bool) {
	if !gridOkOf(a) || !gridOkOf(b) {
		return impl.Patch{}, false
	}
	made := patchOf(b.Cols, int64(len(b.Rows)))
	for i, row := range resizedOf(a, made.Cols, made.Rows).Rows {
		unlike := false
		for j, c := range b.Rows[i] {
			ahead := unlike
			unlike = row[j] != c
			if unlike && !ahead {
				made.Changes = append(made.Changes, changeAt(int64(i), int64(j)))
			}
			if unlike {
				last := &made.Changes[len(made.Changes)-1]
				last.Cells = append(last.Cells, c)
			}
		}
	}
	if len(made.Changes) > 400 {
		return impl.Patch{}, false
	}
	return made, true
}

// patchedOf is Patched by hand: each cell looks for its place.
func patchedOf(g impl.Grid, p impl.Patch) (impl.Grid, bool) {
	made := resizedOf(g, p.Cols, p.Rows)
	right := gridOkOf(made) && len(p.Changes) <= 400
	for _, c := range p.Changes {
		right = right && len(c.Cells) > 0 && c.Row >= 0 && c.Row < p.Rows && c.From >= 0 && c.From < p.Cols
		for i, cell := range c.Cells {
			right = right && c.From+int64(i) < p.Cols
			if right {
				made.Rows[c.Row][c.From+int64(i)] = cell
			}
		}
	}
	if !right || !gridOkOf(made) {
		return impl.Grid{}, false
	}
	return made, true
}

func sumOf(s impl.Style) int64 {
	sums := map[[3]bool]int64{
		{false, false, false}: 0, {true, false, false}: 1, {false, true, false}: 2, {true, true, false}: 3,
		{false, false, true}: 4, {true, false, true}: 5, {false, true, true}: 6, {true, true, true}: 7,
	}
	return sums[[3]bool{s.Bold, s.Under, s.Turned}]
}

// showOf is ShowPatch by hand.
func showOf(p impl.Patch) string {
	right := len(p.Changes) <= 400
	text := strings.Builder{}
	tell := func(number int64) {
		right = right && number >= 0 && number < 10000000
		fmt.Fprintf(&text, " %d", number)
	}
	tell(p.Cols)
	tell(p.Rows)
	for _, c := range p.Changes {
		right = right && len(c.Cells) >= 1 && len(c.Cells) <= 60
		if !right {
			return ""
		}
		tell(c.Row)
		tell(c.From)
		tell(int64(len(c.Cells)))
		for _, cell := range c.Cells {
			s := cell.Style
			right = right && s.Fore < 9 && s.Back < 9
			for _, number := range []int64{cell.Rune, s.Fore, s.Back, sumOf(s), cell.Part} {
				tell(number)
			}
		}
	}
	if !right {
		return ""
	}
	return text.String()[1:]
}

// wordOf reads a word of digits, from 0 to the limit, by hand; -1 of any other one.
func wordOf(word string, limit int64) int64 {
	if word == "" || len(word) > 7 || word[0] == '0' && word != "0" {
		return -1
	}
	number := int64(0)
	for i := range len(word) {
		if word[i] < '0' || word[i] > '9' {
			return -1
		}
		number = number*10 + int64(word[i]-'0')
	}
	if number > limit {
		return -1
	}
	return number
}

// readOf is ReadPatch by hand: it goes from word to word, and asks at each one what may stand there.
func readOf(s string) (impl.Patch, bool) {
	words, right := strings.Split(s, " "), true
	next := func(limit int64) int64 {
		number := int64(-1)
		if len(words) > 0 {
			number, words = wordOf(words[0], limit), words[1:]
		}
		right = right && number >= 0
		return number
	}
	made := patchOf(next(9999999), next(9999999))
	for right && len(words) > 0 {
		c := changeAt(next(9999999), next(9999999))
		for count := next(60); right && int64(len(c.Cells)) < count; {
			cell := impl.Cell{Rune: next(9999999)}
			cell.Style.Fore, cell.Style.Back = next(8), next(8)
			sum := next(7)
			cell.Style.Bold, cell.Style.Under, cell.Style.Turned = sum%2 == 1, sum/2%2 == 1, sum/4 == 1
			cell.Part = next(9999999)
			c.Cells = append(c.Cells, cell)
		}
		right = right && len(c.Cells) > 0
		made.Changes = append(made.Changes, c)
	}
	if !right || len(made.Changes) > 400 {
		return impl.Patch{}, false
	}
	return made, true
}

// checkDiff holds all that is told of two grids against the chapter done by hand.
func checkDiff(t *testing.T, a impl.Grid, b impl.Grid) {
	t.Helper()
	want, right := diffOf(a, b)
	got, is := impl.Diff(a, b)
	if is != right || !samePatch(got, want) {
		t.Fatalf("from %v to %v: %v, %v, not %v, %v", a, b, got, is, want, right)
	}
	if !right {
		return
	}
	if made, fine := impl.Patched(a, got); !fine || !sameGrid(made, b) {
		t.Fatalf("%v patched by %v is %v, %v, not %v", a, got, made, fine, b)
	}
	checkShown(t, got)
}

func checkPatched(t *testing.T, g impl.Grid, p impl.Patch) {
	t.Helper()
	want, right := patchedOf(g, p)
	if got, is := impl.Patched(g, p); is != right || !sameGrid(got, want) {
		t.Fatalf("%v patched by %v is %v, %v, not %v, %v", g, p, got, is, want, right)
	}
}

// checkShown holds the text of a Patch against the one by hand, and what is read of it against the Patch.
func checkShown(t *testing.T, p impl.Patch) {
	t.Helper()
	want := showOf(p)
	text := impl.ShowPatch(p)
	if text != want {
		t.Fatalf("%v is %q, not %q", p, text, want)
	}
	if got, is := impl.ReadPatch(text); is != (want != "") || is && !samePatch(got, p) || !is && !samePatch(got, impl.Patch{}) {
		t.Fatalf("%v is %q, read as %v, %v", p, text, got, is)
	}
}

func checkRead(t *testing.T, s string) {
	t.Helper()
	want, right := readOf(s)
	got, is := impl.ReadPatch(s)
	if is != right || !samePatch(got, want) {
		t.Fatalf("%q is %v, %v, not %v, %v", s, got, is, want, right)
	}
	if is && impl.ShowPatch(got) != s {
		t.Fatalf("%q is %v, which is shown as %q", s, got, impl.ShowPatch(got))
	}
}

func TestDiffOfEachTwoRows(t *testing.T) {
	for _, cols := range [][2]int{{1, 1}, {2, 2}, {3, 3}, {4, 4}, {1, 3}, {3, 1}, {3, 2}, {2, 4}, {4, 3}} {
		eachRow(cols[0], func(one []impl.Cell) {
			eachRow(cols[1], func(two []impl.Cell) {
				checkDiff(t, gridOf(one), gridOf(two))
			})
		})
	}
}

func TestDiffOfSizes(t *testing.T) {
	for _, from := range []int{1, 2, 5, 29, 30} {
		for _, to := range []int{1, 2, 5, 29, 30} {
			a, b := signedGrid(from), signedGrid(to)
			checkDiff(t, a, b)
			checkDiff(t, a, resizedOf(b, 3, int64(to)))
			checkDiff(t, resizedOf(a, 2, int64(from)), b)
			checkDiff(t, resizedOf(a, 60, int64(from)), resizedOf(b, 1, int64(to)))
			checkDiff(t, blankGrid(60, int64(from)), b)
			checkDiff(t, a, blankGrid(60, int64(to)))
		}
	}
}

func TestDiffOfMixedGrids(t *testing.T) {
	var ahead impl.Grid
	someGrids(400, func(g impl.Grid, next func(int) int) {
		checkDiff(t, ahead, g)
		near := copyOf(g)
		for range next(9) {
			i := next(len(near.Rows))
			near.Rows[i] = mixedRow(int(g.Cols), next)
		}
		checkDiff(t, g, near)
		checkDiff(t, near, g)
		wider := resizedOf(near, int64(1+next(60)), int64(1+next(30)))
		checkDiff(t, g, wider)
		checkDiff(t, wider, g)
		ahead = g
	})
}

func TestDiffOfAGridAndItselfChangesNothing(t *testing.T) {
	someGrids(100, func(g impl.Grid, next func(int) int) {
		p, is := impl.Diff(g, copyOf(g))
		if !is || !samePatch(p, patchOf(g.Cols, int64(len(g.Rows)))) {
			t.Fatal(g, p, is)
		}
		if text := impl.ShowPatch(p); text != fmt.Sprintf("%d %d", g.Cols, len(g.Rows)) {
			t.Fatal(text)
		}
		if made, fine := impl.Patched(g, p); !fine || !sameGrid(made, g) {
			t.Fatal(g, made, fine)
		}
	})
}

// A step is two grids, and what leads from the one to the other.
type step struct {
	name string
	from impl.Grid
	to   impl.Grid
	want []impl.Change
}

func plain(text string) []impl.Cell {
	var row []impl.Cell
	for _, r := range text {
		row = append(row, impl.Cell{Rune: int64(r)})
	}
	return row
}

func runSteps() []step {
	x, blank, one, two := plain("x")[0], plain(" ")[0], wide(0x4e00, boldStyle), wide(0x5b57, boldStyle)
	row := func(text string) impl.Grid { return gridOf(plain(text)) }
	return []step{
		{"the first cell", row("abcd"), row("xbcd"), []impl.Change{changeAt(0, 0, x)}},
		{"the last cell", row("abcd"), row("abcx"), []impl.Change{changeAt(0, 3, x)}},
		{"the whole row", row("abcd"), row("efgh"), []impl.Change{changeAt(0, 0, plain("efgh")...)}},
		{"the one cell", row("a"), row("x"), []impl.Change{changeAt(0, 0, x)}},
		{"one like cell between", row("abcde"), row("axcxe"), []impl.Change{changeAt(0, 1, x), changeAt(0, 3, x)}},
		{"first and last", row("abcde"), row("xbcdx"), []impl.Change{changeAt(0, 0, x), changeAt(0, 4, x)}},
		{"longer ones", row("abcdefgh"), row("xxcxxxgx"), []impl.Change{changeAt(0, 0, x, x), changeAt(0, 3, x, x, x), changeAt(0, 7, x)}},
		{"the end of a row and the next beginning", gridOf(plain("ab"), plain("cd")), gridOf(plain("ax"), plain("xd")), []impl.Change{changeAt(0, 1, x), changeAt(1, 0, x)}},
		{"only the second row", gridOf(plain("ab"), plain("cd")), gridOf(plain("ab"), plain("xx")), []impl.Change{changeAt(1, 0, x, x)}},
		{"a column more", row("ab"), row("abx"), []impl.Change{changeAt(0, 2, x)}},
		{"a blank column more", row("ab"), row("ab "), nil},
		{"a column fewer", row("abc"), row("ab"), nil},
		{"a wide rune is cut", gridOf(rowOf(plain("a"), one)), row("ab"), []impl.Change{changeAt(0, 1, plain("b")...)}},
		{"a wide rune is cut, and blank", gridOf(rowOf(plain("a"), one)), gridOf(rowOf(plain("a"), whole(32, boldStyle))), nil},
		{"a wide rune is cut, and usual", gridOf(rowOf(plain("a"), one)), row("a "), []impl.Change{changeAt(0, 1, blank)}},
		{"a row more", row("ab"), gridOf(plain("ab"), plain(" x")), []impl.Change{changeAt(1, 1, x)}},
		{"a blank row more", row("ab"), gridOf(plain("ab"), plain("  ")), nil},
		{"a row fewer, the last one stays", gridOf(plain("ab"), plain("cd")), row("cd"), nil},
		{"a row fewer, the first one stays", gridOf(plain("ab"), plain("cd")), row("ab"), []impl.Change{changeAt(0, 0, plain("ab")...)}},
		{"the first half of a wide rune", gridOf(one), gridOf(two), []impl.Change{changeAt(0, 0, two[0])}},
		{"a run that ends at a first half", gridOf(rowOf(plain("a"), one)), gridOf(rowOf(plain("x"), two)), []impl.Change{changeAt(0, 0, x, two[0])}},
		{"the first half of the second wide rune", gridOf(rowOf(one, one)), gridOf(rowOf(one, two)), []impl.Change{changeAt(0, 2, two[0])}},
		{"a wide rune one cell on", gridOf(rowOf(one, plain(" "))), gridOf(rowOf(plain(" "), one)), []impl.Change{changeAt(0, 0, blank, one[0], one[1])}},
		{"wide runes one cell on", gridOf(rowOf(plain("a"), one, plain("b"))), gridOf(rowOf(one, two)), []impl.Change{changeAt(0, 0, rowOf(one, two)...)}},
		{"a wide rune comes", row("abc"), gridOf(rowOf(plain("a"), one)), []impl.Change{changeAt(0, 1, one...)}},
		{"a wide rune goes", gridOf(rowOf(plain("a"), one)), row("abc"), []impl.Change{changeAt(0, 1, plain("bc")...)}},
		{"another style of a wide rune", gridOf(one), gridOf(wide(0x4e00, redStyle)), []impl.Change{changeAt(0, 0, wide(0x4e00, redStyle)...)}},
	}
}

func TestDiffTellsEachLongestRun(t *testing.T) {
	for _, at := range runSteps() {
		want := impl.Patch{Cols: at.to.Cols, Rows: int64(len(at.to.Rows)), Changes: at.want}
		if got, is := impl.Diff(at.from, at.to); !is || !samePatch(got, want) {
			t.Errorf("%s: %v, %v, not %v", at.name, got, is, want)
		}
		checkDiff(t, at.from, at.to)
		checkDiff(t, at.to, at.from)
	}
}

func TestCellsThatDifferInOneField(t *testing.T) {
	usual := impl.Cell{Rune: 'a', Style: impl.Style{Fore: 3, Back: 4}}
	others := map[string]impl.Cell{
		"Rune": {Rune: 'b', Style: usual.Style}, "Fore": {Rune: 'a', Style: impl.Style{Fore: 2, Back: 4}}, "Back": {Rune: 'a', Style: impl.Style{Fore: 3, Back: 5}},
		"Bold": {Rune: 'a', Style: impl.Style{Fore: 3, Back: 4, Bold: true}}, "Under": {Rune: 'a', Style: impl.Style{Fore: 3, Back: 4, Under: true}},
		"Turned": {Rune: 'a', Style: impl.Style{Fore: 3, Back: 4, Turned: true}},
		"both":   {Rune: 'a', Style: impl.Style{Fore: 4, Back: 3}},
	}
	for name, other := range others {
		for at := range 3 {
			one, two := slices.Repeat([]impl.Cell{usual}, 3), slices.Repeat([]impl.Cell{usual}, 3)
			two[at] = other
			for _, pair := range [][2][]impl.Cell{{one, two}, {two, one}} {
				got, is := impl.Diff(gridOf(pair[0]), gridOf(pair[1]))
				if !is || !samePatch(got, patchOf(3, 1, changeAt(0, int64(at), pair[1][at]))) {
					t.Errorf("%s: %v, %v", name, got, is)
				}
				checkDiff(t, gridOf(pair[0]), gridOf(pair[1]))
			}
		}
	}
	// Another Part makes another Rune, but the Style may be the same.
	parts := [][]impl.Cell{wide(0x4e00, usual.Style), {usual, usual}, {usual, {Rune: 32, Style: usual.Style}}}
	for _, one := range parts {
		for _, two := range parts {
			checkDiff(t, gridOf(one), gridOf(two))
		}
	}
}

// stripes is a grid of 60 columns in which that many cells, each behind a like one, are not blank.
func stripes(rows int, count int) impl.Grid {
	g := blankGrid(60, int64(rows))
	for i := range count {
		g.Rows[i/30][i%30*2+i/30%2] = impl.Cell{Rune: 'x', Style: boldStyle}
	}
	return g
}

func TestDiffOfManyRuns(t *testing.T) {
	for count, right := range map[int]bool{0: true, 1: true, 399: true, 400: true, 401: false, 402: false, 420: false, 800: false, 900: false} {
		blank, striped := blankGrid(60, 30), stripes(30, count)
		p, is := impl.Diff(blank, striped)
		if is != right || right && len(p.Changes) != count || !right && !samePatch(p, impl.Patch{}) {
			t.Errorf("%d runs: %d Changes, %v", count, len(p.Changes), is)
		}
		checkDiff(t, blank, striped)
		checkDiff(t, striped, blank)
		checkDiff(t, blankGrid(1, 1), striped)
		checkDiff(t, striped, striped)
	}
	checkDiff(t, blankGrid(60, 14), stripes(14, 400))
	checkDiff(t, blankGrid(60, 14), stripes(14, 401))
}

func TestNoDiffOfWrongGrids(t *testing.T) {
	right := []impl.Grid{blankGrid(4, 2), signedGrid(3), blankGrid(1, 1), blankGrid(60, 30)}
	for _, wrong := range wrongGrids() {
		for _, pair := range slices.Concat([][2]impl.Grid{{wrong, wrong}}, [][2]impl.Grid{{{}, wrong}, {wrong, {}}}) {
			if p, is := impl.Diff(pair[0], pair[1]); is || !samePatch(p, impl.Patch{}) {
				t.Fatalf("%v and %v: %v, %v", pair[0], pair[1], p, is)
			}
		}
		for _, g := range right {
			p, is := impl.Diff(wrong, g)
			q, also := impl.Diff(g, wrong)
			if is || also || !samePatch(p, impl.Patch{}) || !samePatch(q, impl.Patch{}) {
				t.Fatalf("%v and %v: %v, %v; %v, %v", wrong, g, p, is, q, also)
			}
		}
	}
}

func TestWrongGridsAreNotPatched(t *testing.T) {
	for _, wrong := range wrongGrids() {
		for _, p := range []impl.Patch{
			{}, patchOf(4, 2), patchOf(1, 1), patchOf(60, 30), patchOf(wrong.Cols, int64(len(wrong.Rows))),
			patchOf(2, 1, changeAt(0, 0, blanks(2, impl.Style{})...)), patchOf(4, 1, changeAt(0, 0, blanks(4, impl.Style{})...)),
			patchOf(4, 2, changeAt(0, 0, blanks(4, impl.Style{})...), changeAt(1, 0, blanks(4, impl.Style{})...)),
		} {
			if g, is := impl.Patched(wrong, p); is || !sameGrid(g, impl.Grid{}) {
				t.Fatalf("%v patched by %v is %v, %v", wrong, p, g, is)
			}
		}
	}
}

func TestPatchedToSizesThatNoGridHas(t *testing.T) {
	g := signedGrid(3)
	for _, far := range append([]int64{0, 31, 60, 61}, farNumbers...) {
		for _, near := range []int64{1, 4, 30, 60} {
			checkPatched(t, g, patchOf(far, near))
			checkPatched(t, g, patchOf(near, far))
			checkPatched(t, g, patchOf(far, near, changeAt(0, 0, plain("x")...)))
			checkPatched(t, g, patchOf(near, far, changeAt(0, 0, plain("x")...)))
		}
		checkPatched(t, g, patchOf(far, far))
	}
	for _, size := range [][2]int64{{0, 1}, {1, 0}, {0, 0}, {61, 1}, {1, 31}, {61, 31}, {-4, 3}, {4, -3}, {math.MaxInt64, 1}, {1, math.MinInt64}} {
		if made, is := impl.Patched(g, patchOf(size[0], size[1])); is || !sameGrid(made, impl.Grid{}) {
			t.Errorf("%v: %v, %v", size, made, is)
		}
	}
	for _, size := range [][2]int64{{1, 1}, {60, 30}, {4, 3}, {2, 3}, {4, 2}} {
		made, is := impl.Patched(g, patchOf(size[0], size[1]))
		if !is || !sameGrid(made, resizedOf(g, size[0], size[1])) {
			t.Errorf("%v: %v, %v", size, made, is)
		}
	}
}

func TestPatchedWithin(t *testing.T) {
	x := plain("xxxxx")
	g := gridOf(plain("abcd"), plain("efgh"), plain("ijkl"))
	for _, at := range []struct {
		c    impl.Change
		want string
	}{
		{changeAt(0, 0, x[:1]...), "xbcd\nefgh\nijkl\n"},
		{changeAt(0, 0, x[:4]...), "xxxx\nefgh\nijkl\n"},
		{changeAt(0, 0, x[:5]...), ""},
		{changeAt(1, 3, x[:1]...), "abcd\nefgx\nijkl\n"},
		{changeAt(1, 3, x[:2]...), ""},
		{changeAt(1, 2, x[:2]...), "abcd\nefxx\nijkl\n"},
		{changeAt(1, 2, x[:3]...), ""},
		{changeAt(1, 4, x[:1]...), ""},
		{changeAt(1, -1, x[:1]...), ""},
		{changeAt(1, -1, x[:5]...), ""},
		{changeAt(2, 0, x[:2]...), "abcd\nefgh\nxxkl\n"},
		{changeAt(3, 0, x[:1]...), ""},
		{changeAt(-1, 0, x[:1]...), ""},
		{changeAt(2, 1, plain("jk")...), "abcd\nefgh\nijkl\n"},
		{changeAt(0, 0), ""},
		{changeAt(0, 3), ""},
		{changeAt(0, 4), ""},
		{changeAt(2, 5), ""},
		{changeAt(-1, -1), ""},
		{changeAt(0, math.MaxInt64, x[:1]...), ""},
		{changeAt(0, math.MaxInt64), ""},
		{changeAt(0, math.MaxInt64-3, x[:4]...), ""},
		{changeAt(0, math.MinInt64, x[:1]...), ""},
		{changeAt(math.MaxInt64, 0, x[:1]...), ""},
		{changeAt(math.MinInt64, 0, x[:1]...), ""},
		{changeAt(math.MaxInt64, math.MaxInt64, x...), ""},
		{changeAt(1<<32, 0, x[:1]...), ""},
		{changeAt(0, 1<<32, x[:1]...), ""},
		{changeAt(0, 0, slices.Repeat(x, 100)...), ""},
	} {
		made, is := impl.Patched(g, patchOf(4, 3, at.c))
		if is != (at.want != "") || impl.GridText(made) != at.want || !is && !sameGrid(made, impl.Grid{}) {
			t.Errorf("%v: %v, %q", at.c, is, impl.GridText(made))
		}
		checkPatched(t, g, patchOf(4, 3, at.c))
		checkPatched(t, g, patchOf(4, 3, changeAt(0, 0, x[:1]...), at.c, changeAt(2, 0, x[:1]...)))
	}
}

func TestPatchedInOrder(t *testing.T) {
	g := gridOf(plain("abcd"), plain("efgh"))
	made, is := impl.Patched(g, patchOf(4, 2, changeAt(1, 0, plain("1234")...), changeAt(0, 1, plain("56")...), changeAt(1, 1, plain("78")...), changeAt(1, 2, plain("9")...)))
	if !is || impl.GridText(made) != "a56d\n1794\n" {
		t.Error(impl.GridText(made), is)
	}
	made, is = impl.Patched(g, patchOf(2, 3, changeAt(2, 1, plain("x")...)))
	if !is || impl.GridText(made) != "ab\nef\n x\n" {
		t.Error(impl.GridText(made), is)
	}
}

func TestPatchedAsksOnlyWhatComesInTheEnd(t *testing.T) {
	one, two := wide(0x4e00, boldStyle), wide(0x5b57, boldStyle)
	g := gridOf(rowOf(plain("a"), one, plain("b")))
	wrong := impl.Cell{Rune: 'x', Style: wrongStyle}
	for _, at := range []struct {
		name    string
		changes []impl.Change
		is      bool
	}{
		{"the first half goes", []impl.Change{changeAt(0, 1, plain("x")...)}, false},
		{"the second half goes", []impl.Change{changeAt(0, 2, plain("x")...)}, false},
		{"both go, one by one", []impl.Change{changeAt(0, 1, plain("x")...), changeAt(0, 2, plain("y")...)}, true},
		{"both go, the second one first", []impl.Change{changeAt(0, 2, plain("y")...), changeAt(0, 1, plain("x")...)}, true},
		{"both go", []impl.Change{changeAt(0, 1, plain("xy")...)}, true},
		{"another first half of that style", []impl.Change{changeAt(0, 1, two[0])}, true},
		{"another first half of another style", []impl.Change{changeAt(0, 1, wide(0x5b57, redStyle)[0])}, false},
		{"a first half at the end", []impl.Change{changeAt(0, 3, one[0])}, false},
		{"a first half ahead of a first half", []impl.Change{changeAt(0, 0, one[0])}, false},
		{"a second half at the beginning", []impl.Change{changeAt(0, 0, one[1])}, false},
		{"halves apart, then together", []impl.Change{changeAt(0, 0, one[0]), changeAt(0, 1, one[1]), changeAt(0, 2, plain("x")...)}, true},
		{"a wide rune over a half", []impl.Change{changeAt(0, 0, two...)}, false},
		{"and what is left is mended", []impl.Change{changeAt(0, 0, two...), changeAt(0, 2, plain("x")...)}, true},
		{"a wrong style", []impl.Change{changeAt(0, 0, wrong)}, false},
		{"a wrong style that goes", []impl.Change{changeAt(0, 0, wrong), changeAt(0, 0, plain("x")...)}, true},
		{"a wrong style that comes", []impl.Change{changeAt(0, 0, plain("x")...), changeAt(0, 0, wrong)}, false},
		{"a wrong rune", []impl.Change{changeAt(0, 0, impl.Cell{Rune: 10})}, false},
		{"no rune", []impl.Change{changeAt(0, 0, impl.Cell{})}, false},
		{"a wide rune in one cell", []impl.Change{changeAt(0, 0, impl.Cell{Rune: 0x4e00})}, false},
		{"a wrong Part", []impl.Change{changeAt(0, 0, impl.Cell{Rune: 'x', Part: 3})}, false},
		{"a wrong Part that goes", []impl.Change{changeAt(0, 3, impl.Cell{Rune: 'x', Part: -1}), changeAt(0, 3, plain("x")...)}, true},
	} {
		if _, is := impl.Patched(g, patchOf(4, 1, at.changes...)); is != at.is {
			t.Errorf("%s: %v", at.name, is)
		}
		checkPatched(t, g, patchOf(4, 1, at.changes...))
		checkPatched(t, g, patchOf(5, 2, at.changes...))
		checkPatched(t, g, patchOf(2, 1, at.changes...))
	}
	for _, c := range edgeCells() {
		checkPatched(t, g, patchOf(4, 1, changeAt(0, 0, c)))
		checkPatched(t, g, patchOf(4, 1, changeAt(0, 1, c)))
		checkPatched(t, g, patchOf(4, 1, changeAt(0, 1, c, impl.Cell{Style: c.Style, Part: 2})))
		checkPatched(t, g, patchOf(4, 1, changeAt(0, 0, c), changeAt(0, 0, plain("x")...)))
	}
}

func TestPatchedByManyChanges(t *testing.T) {
	g := blankGrid(3, 2)
	for _, count := range []int{0, 1, 399, 400, 401, 402, 800, 100000} {
		p := patchOf(3, 2, slices.Repeat([]impl.Change{changeAt(1, 1, plain("x")...)}, count)...)
		made, is := impl.Patched(g, p)
		if is != (count <= 400) || !is && !sameGrid(made, impl.Grid{}) {
			t.Errorf("%d: %v, %v", count, made, is)
		}
		if text := impl.ShowPatch(p); (text != "") != (count <= 400) {
			t.Errorf("%d: %q", count, text)
		}
	}
}

// mixedChange is a Change of pieces in no order, mostly within a grid of that size.
func mixedChange(cols int, rows int, next func(int) int) impl.Change {
	from := next(cols)
	cells := mixedRow(1+next(cols-from), next)
	switch next(40) {
	case 0:
		from++
	case 1:
		cells = cells[1:]
	case 2:
		rows++
	}
	return changeAt(int64(next(rows)), int64(from), cells...)
}

func TestPatchedByMixedChanges(t *testing.T) {
	right := 0
	someGrids(3000, func(g impl.Grid, next func(int) int) {
		cols, rows := 1+next(60), 1+next(30)
		p := patchOf(int64(cols), int64(rows))
		for range next(6) {
			p.Changes = append(p.Changes, mixedChange(cols, rows, next))
		}
		checkPatched(t, g, p)
		checkShown(t, p)
		if _, is := impl.Patched(g, p); is {
			right++
		}
	})
	if right < 300 || right > 2700 {
		t.Error(right)
	}
}

func TestShowPatchTellsEachNumber(t *testing.T) {
	for text, p := range map[string]impl.Patch{
		"0 0":                                   {},
		"4 2":                                   patchOf(4, 2),
		"60 30":                                 {Cols: 60, Rows: 30, Changes: []impl.Change{}},
		"9999999 9999999":                       patchOf(9999999, 9999999),
		"4 2 1 3 1 120 5 6 0 0":                 patchOf(4, 2, changeAt(1, 3, impl.Cell{Rune: 'x', Style: impl.Style{Fore: 5, Back: 6}})),
		"4 2 0 0 2 19968 8 0 1 1 0 8 0 1 2":     patchOf(4, 2, changeAt(0, 0, wide(0x4e00, impl.Style{Fore: 8, Bold: true})...)),
		"1 1 0 0 1 97 0 0 0 0 0 0 1 98 0 0 0 0": patchOf(1, 1, changeAt(0, 0, plain("a")...), changeAt(0, 0, plain("b")...)),
		"4 2 7 8 1 10 0 8 7 9":                  patchOf(4, 2, changeAt(7, 8, impl.Cell{Rune: 10, Style: impl.Style{Back: 8, Bold: true, Under: true, Turned: true}, Part: 9})),
		"1 2 9999999 9999999 1 9999999 0 0 0 9999999":                      patchOf(1, 2, changeAt(9999999, 9999999, impl.Cell{Rune: 9999999, Part: 9999999})),
		"3 1 0 0 1 97 0 0 0 0 0 2 1 98 0 0 4 0 2 1 2 32 0 0 0 0 0 0 0 0 0": patchOf(3, 1, changeAt(0, 0, plain("a")...), changeAt(0, 2, impl.Cell{Rune: 'b', Style: impl.Style{Turned: true}}), changeAt(2, 1, plain(" ")[0], impl.Cell{})),
	} {
		if got := impl.ShowPatch(p); got != text {
			t.Errorf("%v: %q, not %q", p, got, text)
		}
		if got, is := impl.ReadPatch(text); !is || !samePatch(got, p) {
			t.Errorf("%q: %v, %v", text, got, is)
		}
		checkShown(t, p)
	}
}

// withNumber gives Patches of two Changes of two cells, in each of which another number is that one.
func withNumber(number int64) []impl.Patch {
	var all []impl.Patch
	usual := patchOf(4, 2, changeAt(1, 2, plain("ab")...), changeAt(0, 1, wide(0x4e00, redStyle)...))
	put := func(which func(p *impl.Patch) *int64) {
		p := copyOfPatch(usual)
		*which(&p) = number
		all = append(all, p)
	}
	put(func(p *impl.Patch) *int64 { return &p.Cols })
	put(func(p *impl.Patch) *int64 { return &p.Rows })
	for i := range 2 {
		put(func(p *impl.Patch) *int64 { return &p.Changes[i].Row })
		put(func(p *impl.Patch) *int64 { return &p.Changes[i].From })
		for j := range 2 {
			put(func(p *impl.Patch) *int64 { return &p.Changes[i].Cells[j].Rune })
			put(func(p *impl.Patch) *int64 { return &p.Changes[i].Cells[j].Part })
		}
	}
	return all
}

func TestShowPatchOfEachNumber(t *testing.T) {
	for _, number := range []int64{0, 1, 9, 10, 61, 999999, 1000000, 1114112, 9999998, 9999999} {
		for i, p := range withNumber(number) {
			if impl.ShowPatch(p) == "" {
				t.Errorf("%d: %d is not shown", i, number)
			}
			checkShown(t, p)
		}
	}
	far := slices.DeleteFunc(slices.Clone(farNumbers), func(n int64) bool { return n >= 0 && n <= 9999999 })
	for _, number := range append([]int64{-1, -2, -9999999, 10000000, 10000001, 99999999, 999999999}, far...) {
		for i, p := range withNumber(number) {
			if text := impl.ShowPatch(p); text != "" {
				t.Errorf("%d: %d is shown: %q", i, number, text)
			}
		}
	}
}

func TestShowPatchOfEachCountOfCells(t *testing.T) {
	for _, count := range []int{0, 1, 2, 59, 60, 61, 62, 120, 256, 257, 316, 1000} {
		cells := slices.Repeat(plain("x"), count)
		for _, changes := range [][]impl.Change{
			{changeAt(0, 0, cells...)}, {changeAt(0, 0, cells...), changeAt(0, 0, plain("x")...)}, {changeAt(0, 0, plain("x")...), changeAt(0, 0, cells...)},
		} {
			p := patchOf(60, 1, changes...)
			if text := impl.ShowPatch(p); (text != "") != (count >= 1 && count <= 60) {
				t.Errorf("%d cells: %q", count, text)
			}
			checkShown(t, p)
		}
		// As ShowPatch would show it, if it did.
		text := fmt.Sprintf("60 1 0 0 %d%s", count, strings.Repeat(" 120 0 0 0 0", count))
		if _, is := impl.ReadPatch(text); is != (count >= 1 && count <= 60) {
			t.Errorf("%d cells: read %v", count, is)
		}
		checkRead(t, text)
	}
}

func TestShowPatchOfEachStyle(t *testing.T) {
	for _, s := range rightStyles() {
		p := patchOf(4, 2, changeAt(1, 1, impl.Cell{Rune: 'x', Style: s}))
		want := fmt.Sprintf("4 2 1 1 1 120 %d %d %d 0", s.Fore, s.Back, sumOf(s))
		if text := impl.ShowPatch(p); text != want {
			t.Errorf("%v: %q, not %q", s, text, want)
		}
		if got, is := impl.ReadPatch(want); !is || !samePatch(got, p) {
			t.Errorf("%q: %v, %v", want, got, is)
		}
	}
	for _, s := range wrongStyles() {
		cell := impl.Cell{Rune: 'x', Style: s}
		for _, cells := range [][]impl.Cell{{cell}, {cell, plain("x")[0]}, {plain("x")[0], cell}} {
			for _, p := range []impl.Patch{patchOf(4, 2, changeAt(1, 1, cells...)), patchOf(4, 2, changeAt(0, 0, plain("x")...), changeAt(1, 1, cells...))} {
				if text := impl.ShowPatch(p); text != "" {
					t.Errorf("%v: %q", s, text)
				}
			}
		}
	}
}

func TestPatchesOfManyChangesAreShownAndRead(t *testing.T) {
	for _, count := range []int{0, 1, 2, 399, 400, 401, 402, 1000} {
		p := patchOf(60, 30)
		text := "60 30"
		for i := range count {
			p.Changes = append(p.Changes, changeAt(int64(i%30), int64(i%60), plain("x")...))
			text += fmt.Sprintf(" %d %d 1 120 0 0 0 0", i%30, i%60)
		}
		checkShown(t, p)
		checkRead(t, text)
		got, is := impl.ReadPatch(text)
		if is != (count <= 400) || is && !samePatch(got, p) || !is && !samePatch(got, impl.Patch{}) {
			t.Errorf("%d Changes: %v", count, is)
		}
	}
	full := patchOf(60, 30, slices.Repeat([]impl.Change{changeAt(29, 0, slices.Repeat([]impl.Cell{{Rune: 9999999, Style: fullStyle, Part: 9999999}}, 60)...)}, 400)...)
	if text := impl.ShowPatch(full); len(text) < 500000 {
		t.Error(len(text))
	}
	checkShown(t, full)
}

// noPatches are texts that no Patch is shown as.
func noPatches() []string {
	return []string{
		"", " ", "  ", "0", "4", "4 ", " 4", "4  2", " 4 2", "4 2 ", "4 2  ", "  4 2", "4\t2", "4\n2", "4 2\n", "\n4 2", "4 2\x00", "4,2", "4;2", "4\xc2\xa02",
		"04 2", "4 02", "00 0", "0 00", "4 -2", "-4 2", "-0 0", "+4 2", "4 +2", "4 2.", "4 2.0", "4e0 2", "0x4 2", "4_0 2", "four 2", "4 a", "a", "4 2 a", "4 \xd9\xa2",
		"10000000 1", "1 10000000", "99999999 1", "1 999999999", "1 9223372036854775807", "1 9223372036854775808", "18446744073709551617 1", "1 18446744073709551616",
		"1 " + strings.Repeat("9", 1000), strings.Repeat("0", 1000) + "1 1", "1 1 " + strings.Repeat("1", 100),
		"4 2 1", "4 2 1 1", "4 2 1 1 1", "4 2 1 1 1 120", "4 2 1 1 1 120 0", "4 2 1 1 1 120 0 0", "4 2 1 1 1 120 0 0 2", "4 2 1 1 1 120 0 0 2 0 1", "4 2 1 1 1 120 0 0 2 0 0 0", "4 2 1 1 1 120 0 0 2 0 0 0 1",
		"4 2 1 1 2 120 0 0 2 0", "4 2 1 1 2 120 0 0 2 0 97 0 0 0", "4 2 1 1 0", "4 2 1 1 0 120 0 0 2 0", "4 2 1 1 0 1 1 1 120 0 0 2 0", "4 2 1 1 1 120 0 0 2 0 1 1 0",
		"4 2 1 1 -1", "4 2 1 1 -1 120 0 0 2 0", "4 2 1 1 01 120 0 0 2 0", "4 2 1 1 1 120 0 0 02 0", "4 2 1 1 61 120 0 0 2 0", "4 2 1 1 9999999 120 0 0 2 0", "4 2 1 1 9223372036854775807 120 0 0 2 0",
		"4 2 1 1 3689348814741910324 120 0 0 2 0", "4 2 1 1 -9223372036854775808 1 0 0 2 0", "4 2 1 1 18446744073709551617 120 0 0 2 0", "4 2 1 1 4294967297 120 0 0 2 0",
		"4 2 1 1 1 120 9 0 2 0", "4 2 1 1 1 120 0 9 2 0", "4 2 1 1 1 120 -1 0 2 0", "4 2 1 1 1 120 0 -1 2 0", "4 2 1 1 1 120 256 0 2 0",
		"4 2 1 1 1 120 0 0 8 0", "4 2 1 1 1 120 0 0 9 0", "4 2 1 1 1 120 0 0 10 0", "4 2 1 1 1 120 0 0 15 0", "4 2 1 1 1 120 0 0 16 0", "4 2 1 1 1 120 0 0 256 0", "4 2 1 1 1 120 0 0 -1 0", "4 2 1 1 1 120 0 0 -8 0",
		"4 2 1 1 1 120 0 0 2 -1", "4 2 1 1 1 120 0 0 2 10000000", "4 2 1 1 1 10000000 0 0 2 0", "4 2 1 1 1 -1 0 0 2 0", "4 2 10000000 1 1 120 0 0 2 0", "4 2 1 10000000 1 120 0 0 2 0", "4 2 -1 1 1 120 0 0 2 0", "4 2 1 -1 1 120 0 0 2 0",
		"4 2 1 1 1 120 0 0 2  0", "4 2 1 1 1 120 0 0 2 0 ", " 4 2 1 1 1 120 0 0 2 0", "4 2 1 1 1 120 0 0 2 0\n", "4 2 1 1 1 120 0 0 2 00", "4 2 1 1 1 120 0 0 2 0x0", "4 2 1 1 1 x 0 0 2 0",
	}
}

func TestNoPatchIsReadOfAnotherText(t *testing.T) {
	for _, s := range noPatches() {
		if p, is := impl.ReadPatch(s); is || !samePatch(p, impl.Patch{}) {
			t.Errorf("%q: %v, %v", s, p, is)
		}
		checkRead(t, s)
	}
}

// someTexts are texts of Patches of no, one and some Changes.
func someTexts() []string {
	return []string{
		"0 0", "4 2", "60 30", "9999999 9999999", "4 2 1 1 1 120 0 0 2 0", "4 2 0 0 2 19968 8 0 1 1 0 8 0 1 2", "12 30 29 11 1 1114111 8 8 7 3 0 10 2 65 1 2 3 0 66 4 5 6 0",
		impl.ShowPatch(patchOf(60, 1, changeAt(0, 0, slices.Repeat(plain("x"), 60)...))),
	}
}

func TestReadPatchOfTextsCutAndChanged(t *testing.T) {
	for _, s := range someTexts() {
		checkRead(t, s)
		for at := range len(s) + 1 {
			checkRead(t, s[:at])
			checkRead(t, s[at:])
			checkRead(t, s[:at]+s)
			for _, more := range []string{" ", "0", "1", "9", "-", "+", "a", "_", "\x00", "\n", ".", " 0", "0 ", " 1 "} {
				checkRead(t, s[:at]+more+s[at:])
				if at < len(s) {
					checkRead(t, s[:at]+more+s[at+1:])
				}
			}
			if at < len(s) {
				checkRead(t, s[:at]+s[at+1:])
			}
		}
	}
}

// numberTexts are words that are numbers, at the edges of what may stand somewhere, and words that are none.
var numberTexts = []string{
	"0", "1", "2", "7", "8", "9", "59", "60", "61", "256", "9999998", "9999999", "10000000", "999999999", "1000000000", "4294967296", "9223372036854775807", "9223372036854775808",
	"-1", "-0", "+1", "00", "01", "007", "", "a", "1a", "a1", "0x1", "1_0", "1.0", "1e3", "\xd9\xa1", "-9223372036854775808", "18446744073709551616", "99999999999999999999999999",
}

func TestReadPatchOfEachWord(t *testing.T) {
	for _, s := range someTexts()[:7] {
		words := strings.Split(s, " ")
		for at := range words {
			for _, word := range numberTexts {
				changed := slices.Clone(words)
				changed[at] = word
				checkRead(t, strings.Join(changed, " "))
				checkRead(t, strings.Join(slices.Insert(slices.Clone(words), at, word), " "))
			}
			checkRead(t, strings.Join(words[:at], " "))
			checkRead(t, strings.Join(words[at:], " "))
			checkRead(t, strings.Join(slices.Delete(slices.Clone(words), at, at+1), " "))
		}
	}
}

func TestReadPatchOfMixedWords(t *testing.T) {
	next := numbersFrom(10)
	right := 0
	for range 20000 {
		words := []string{strconv.Itoa(next(70)), strconv.Itoa(next(40))}
		for range next(4) {
			count := next(4)
			words = append(words, strconv.Itoa(next(30)), strconv.Itoa(next(60)), strconv.Itoa(count))
			for range count {
				words = append(words, strconv.Itoa(next(70000)), strconv.Itoa(next(9)), strconv.Itoa(next(9)), strconv.Itoa(next(8)), strconv.Itoa(next(4)))
			}
		}
		if next(4) == 0 {
			words[next(len(words))] = numberTexts[next(len(numberTexts))]
		}
		s := strings.Join(words, " ")
		checkRead(t, s)
		if _, is := impl.ReadPatch(s); is {
			right++
		}
	}
	if right < 3000 || right > 17000 {
		t.Error(right)
	}
}

// roomyPatches are Patches whose lists lie within longer ones; some of them are one and the same memory.
func roomyPatches() (patches []impl.Patch, changes []impl.Change, cells []impl.Cell) {
	cells = rowOf(plain("0"), wide(0x4e00, boldStyle), plain("ab"), whole('c', wrongStyle), plain("1"))
	changes = []impl.Change{
		changeAt(9, 9, cells...), {Row: 0, From: 1, Cells: cells[1:3]}, {Row: 1, From: 4, Cells: cells[3:5]}, {Row: 3, From: 0, Cells: cells[1:3]},
		{Row: 1, From: 4, Cells: cells[3:5]}, {Row: 0, From: 0, Cells: cells[5:6]}, {Row: 0, From: 0, Cells: cells[4:5]},
	}
	for _, list := range [][]impl.Change{changes[:0], changes[1:2], changes[1:3], changes[1:5], changes[4:6], changes[5:7], changes[6:7]} {
		patches = append(patches, impl.Patch{Cols: 6, Rows: 4, Changes: list}, impl.Patch{Cols: 9, Rows: 7, Changes: list}, impl.Patch{Cols: 3, Rows: 2, Changes: list})
	}
	return patches, changes, cells
}

// A patchAnswer is what one call of this layer answers.
type patchAnswer struct {
	grid  impl.Grid
	patch impl.Patch
	text  string
	is    bool
}

func samePatchAnswer(a patchAnswer, b patchAnswer) bool {
	return a.is == b.is && a.text == b.text && sameGrid(a.grid, b.grid) && samePatch(a.patch, b.patch)
}

func allPatchAnswers(grids []impl.Grid, patches []impl.Patch) []patchAnswer {
	var all []patchAnswer
	for _, a := range grids {
		for _, b := range grids {
			p, is := impl.Diff(a, b)
			all = append(all, patchAnswer{patch: p, is: is})
		}
		for _, p := range patches {
			g, is := impl.Patched(a, p)
			all = append(all, patchAnswer{grid: g, is: is})
		}
	}
	for _, p := range patches {
		text := impl.ShowPatch(p)
		read, is := impl.ReadPatch(text)
		all = append(all, patchAnswer{patch: read, text: text, is: is})
	}
	return all
}

// lists are all lists of cells of an answer.
func (a patchAnswer) lists() [][]impl.Cell {
	all := slices.Clone(a.grid.Rows)
	for _, c := range a.patch.Changes {
		all = append(all, c.Cells)
	}
	return all
}

func TestPatchesArgumentsStayAndAnswersAreNew(t *testing.T) {
	rows, room := roomyRows()
	grids := []impl.Grid{{Cols: 6, Rows: rows}, {Cols: 6, Rows: rows[1:2]}, {Cols: 6, Rows: rows[2:]}, {Cols: 6, Rows: rows[:5]}, blankGrid(6, 4), blankGrid(4, 5), {Cols: 7, Rows: rows}}
	patches, changes, cells := roomyPatches()
	rowsBefore, roomBefore := copyOf(grids[3]), slices.Clone(room)
	changesBefore, cellsBefore := copyOfPatch(impl.Patch{Changes: changes}), slices.Clone(cells)
	stay := func() bool {
		return slices.Equal(room, roomBefore) && slices.Equal(cells, cellsBefore) && sameGrid(grids[3], rowsBefore) && samePatch(impl.Patch{Changes: changes}, changesBefore)
	}
	ahead, answers := allPatchAnswers(grids, patches), allPatchAnswers(grids, patches)
	if !stay() {
		t.Fatal("what was handed in was written into")
	}
	for i, answer := range answers {
		for _, list := range answer.lists() {
			spoil(list)
		}
		clear(answer.grid.Rows[:cap(answer.grid.Rows)])
		clear(answer.patch.Changes[:cap(answer.patch.Changes)])
		if !stay() {
			t.Fatalf("answer %d shares with what was handed in", i)
		}
	}
	for i, answer := range allPatchAnswers(grids, patches) {
		if !samePatchAnswer(answer, ahead[i]) {
			t.Fatalf("answer %d shares with another: %v, not %v", i, answer, ahead[i])
		}
	}
}

func TestNoListOfAPatchSharesWithAnother(t *testing.T) {
	rows, _ := roomyRows()
	grids := []impl.Grid{{Cols: 6, Rows: rows}, {Cols: 6, Rows: rows[1:2]}, blankGrid(6, 4), stripes(2, 40)}
	patches, _, _ := roomyPatches()
	right := 0
	for i, want := range allPatchAnswers(grids, patches) {
		if want.is {
			right++
		}
		for at, list := range want.lists() {
			got := allPatchAnswers(grids, patches)[i]
			spoil(got.lists()[at])
			copy(got.lists()[at], list)
			if !samePatchAnswer(got, want) {
				t.Fatalf("answer %d: list %d shares with another one", i, at)
			}
		}
	}
	if right < 30 {
		t.Error(right)
	}
}

// A function of this layer that panics, or doesn't end, on anything here fails by that.
func TestPatchesAnswerAtEveryArgument(t *testing.T) {
	grids := append(wrongGrids()[:26], signedGrid(1), signedGrid(5), blankGrid(60, 30))
	numbers := append([]int64{0, 1, 3, 4, 29, 30, 59, 60}, farNumbers...)
	lists := [][]impl.Cell{nil, {}, plain("x"), plain("xyz"), wide(0x4e00, boldStyle), wide(0x4e00, redStyle)[1:], whole('x', wrongStyle), slices.Repeat(plain("x"), 60), slices.Repeat(plain("x"), 61), {{}}, {{Rune: math.MinInt64, Part: math.MaxInt64}}}
	for _, a := range grids {
		for _, b := range grids {
			checkDiff(t, a, b)
		}
		checkPatched(t, a, impl.Patch{})
	}
	for _, g := range grids[24:] {
		for _, one := range numbers {
			for _, two := range numbers {
				for _, cells := range lists {
					checkPatched(t, g, patchOf(4, 5, changeAt(one, two, cells...)))
				}
				checkPatched(t, g, patchOf(one, two, changeAt(two, one, plain("x")...)))
				checkPatched(t, g, patchOf(one, two))
			}
		}
	}
	for _, one := range numbers {
		for _, two := range numbers {
			for _, cells := range lists {
				checkShown(t, patchOf(one, two, changeAt(one, two, cells...)))
				checkShown(t, patchOf(4, 5, changeAt(one, two, cells...), changeAt(two, one, cells...)))
			}
		}
	}
	for _, s := range []string{strings.Repeat(" ", 100000), strings.Repeat("9", 100000), strings.Repeat("1 ", 100000), "1 1" + strings.Repeat(" 0 0 1 97 0 0 0 0", 20000), strings.Repeat("0 ", 100000) + "0"} {
		checkRead(t, s)
	}
}

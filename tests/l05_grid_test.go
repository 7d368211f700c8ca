package tests

import (
	"math"
	"slices"
	"strings"
	"testing"

	"loop.example/g00215/impl"
)

// farCounts are how many rows are moved: in range at the edges, and out of it.
var farCounts = slices.Concat([]int64{0, 1, 2, 29, 30, 31, 60, 999, 1000, 1001, 1002}, farNumbers)

func gridOf(rows ...[]impl.Cell) impl.Grid {
	return impl.Grid{Cols: int64(len(rows[0])), Rows: rows}
}

func blankGrid(cols int64, rows int64) impl.Grid {
	g := impl.Grid{Cols: cols}
	for range rows {
		g.Rows = append(g.Rows, blanks(cols, impl.Style{}))
	}
	return g
}

// signedGrid has as many rows, each of which is another one: its number as a letter, behind it a wide rune.
func signedGrid(rows int) impl.Grid {
	g := impl.Grid{Cols: 4}
	for i := range rows {
		g.Rows = append(g.Rows, rowOf(whole(int64('A'+i), redStyle), wide(0x4e00+int64(i), boldStyle), blanks(1, fullStyle)))
	}
	return g
}

func mixedGrid(cols int, rows int, next func(int) int) impl.Grid {
	g := impl.Grid{Cols: int64(cols)}
	for range rows {
		g.Rows = append(g.Rows, mixedRow(cols, next))
	}
	return g
}

// someGrids are grids of all sizes, of pieces in no order.
func someGrids(count int, yield func(impl.Grid, func(int) int)) {
	next := numbersFrom(5)
	for range count {
		yield(mixedGrid(1+next(60), 1+next(30), next), next)
	}
}

func copyOf(g impl.Grid) impl.Grid {
	made := impl.Grid{Cols: g.Cols}
	for _, row := range g.Rows {
		made.Rows = append(made.Rows, slices.Clone(row))
	}
	return made
}

func sameGrid(a impl.Grid, b impl.Grid) bool {
	return a.Cols == b.Cols && slices.EqualFunc(a.Rows, b.Rows, slices.Equal[[]impl.Cell])
}

// gridOkOf is GridOk by hand.
func gridOkOf(g impl.Grid) bool {
	right := len(g.Rows) >= 1 && len(g.Rows) <= 30
	for _, row := range g.Rows {
		right = right && int64(len(row)) == g.Cols && rowOkOf(row)
	}
	return right
}

func scrolledOf(g impl.Grid, top int64, bottom int64, n int64, s impl.Style) bool {
	right := gridOkOf(g) && impl.StyleOk(s)
	return right && top >= 0 && bottom >= top && bottom < int64(len(g.Rows)) && n >= 0 && n <= 1000
}

// upOf is Up by hand: each row looks for the one that comes to it.
func upOf(g impl.Grid, top int64, bottom int64, n int64, s impl.Style) impl.Grid {
	if !scrolledOf(g, top, bottom, n, s) {
		return impl.Grid{}
	}
	made := copyOf(g)
	for i := top; i <= bottom; i++ {
		made.Rows[i] = blanks(g.Cols, s)
		if i+n <= bottom {
			made.Rows[i] = g.Rows[i+n]
		}
	}
	return made
}

// downOf is Down by hand.
func downOf(g impl.Grid, top int64, bottom int64, n int64, s impl.Style) impl.Grid {
	if !scrolledOf(g, top, bottom, n, s) {
		return impl.Grid{}
	}
	made := copyOf(g)
	for i := top; i <= bottom; i++ {
		made.Rows[i] = blanks(g.Cols, s)
		if i-n >= top {
			made.Rows[i] = g.Rows[i-n]
		}
	}
	return made
}

// resizedOf is Resized by hand: the wide runes have names, and what has lost its other half is blank.
func resizedOf(g impl.Grid, cols int64, rows int64) impl.Grid {
	if !gridOkOf(g) || cols < 1 || cols > 60 || rows < 1 || rows > 30 {
		return impl.Grid{}
	}
	made := impl.Grid{Cols: cols}
	for _, row := range g.Rows {
		list := slices.Concat(names(row), names(blanks(60, impl.Style{})))
		made.Rows = append(made.Rows, mended(list[:cols]))
	}
	for int64(len(made.Rows)) > rows {
		made.Rows = made.Rows[1:]
	}
	for int64(len(made.Rows)) < rows {
		made.Rows = append(made.Rows, blanks(cols, impl.Style{}))
	}
	return made
}

// checkGrid holds what was made of a grid against what should have been, which is the zero Grid or a right one.
func checkGrid(t *testing.T, what string, g impl.Grid, numbers [3]int64, got impl.Grid, want impl.Grid) {
	t.Helper()
	if !sameGrid(got, want) {
		t.Fatalf("%v %s %v: %v, not %v", g, what, numbers, got, want)
	}
	if len(got.Rows) > 0 && (!gridOkOf(got) || !impl.GridOk(got)) {
		t.Fatalf("%v %s %v: %v is wrong", g, what, numbers, got)
	}
}

func checkUp(t *testing.T, g impl.Grid, top int64, bottom int64, n int64, s impl.Style) {
	t.Helper()
	checkGrid(t, "Up", g, [3]int64{top, bottom, n}, impl.Up(g, top, bottom, n, s), upOf(g, top, bottom, n, s))
}

func checkDown(t *testing.T, g impl.Grid, top int64, bottom int64, n int64, s impl.Style) {
	t.Helper()
	checkGrid(t, "Down", g, [3]int64{top, bottom, n}, impl.Down(g, top, bottom, n, s), downOf(g, top, bottom, n, s))
}

func checkResized(t *testing.T, g impl.Grid, cols int64, rows int64) {
	t.Helper()
	checkGrid(t, "Resized", g, [3]int64{cols, rows}, impl.Resized(g, cols, rows), resizedOf(g, cols, rows))
}

func TestGridOkOfEachSize(t *testing.T) {
	for _, rows := range []int64{0, 1, 2, 29, 30, 31, 32, 60, 256, 257} {
		for _, cols := range []int64{0, 1, 2, 59, 60, 61, 62} {
			right := rows >= 1 && rows <= 30 && cols >= 1 && cols <= 60
			if impl.GridOk(blankGrid(cols, rows)) != right {
				t.Error(cols, rows, !right)
			}
		}
	}
	if impl.GridOk(impl.Grid{}) || impl.GridOk(impl.Grid{Cols: 1}) || impl.GridOk(impl.Grid{Cols: 1, Rows: [][]impl.Cell{}}) || impl.MaxRows != 30 {
		t.Error(impl.MaxRows)
	}
}

func TestGridOkOfEachCols(t *testing.T) {
	for _, g := range []impl.Grid{blankGrid(1, 1), blankGrid(1, 30), blankGrid(60, 1), blankGrid(60, 30), signedGrid(3)} {
		right := g.Cols
		for _, cols := range slices.Concat([]int64{0, right - 1, right, right + 1, right + 256, right + 1<<32}, farNumbers) {
			g.Cols = cols
			if impl.GridOk(g) != (cols == right) {
				t.Errorf("%d for rows of %d", cols, right)
			}
		}
	}
}

func TestGridOkWhereOneRowIsAnother(t *testing.T) {
	for _, rows := range []int{1, 2, 3, 29, 30} {
		for at := range rows {
			for _, row := range [][]impl.Cell{
				nil, {}, blanks(3, impl.Style{}), blanks(5, impl.Style{}), blanks(8, impl.Style{}), blanks(61, impl.Style{}),
				rowOf(blanks(3, impl.Style{}), wide(0x4e00, boldStyle)[:1]), rowOf(wide(0x4e00, boldStyle)[1:], blanks(3, impl.Style{})),
				rowOf(blanks(3, impl.Style{}), whole(0, impl.Style{})), blanks(4, wrongStyle), make([]impl.Cell, 4),
			} {
				g := signedGrid(rows)
				g.Rows[at] = row
				if impl.GridOk(g) {
					t.Errorf("%d rows, number %d is %v", rows, at, row)
				}
			}
			g := signedGrid(rows)
			g.Rows[at] = rowOf(wide(0x3000, redStyle), wide(0x1f600, fullStyle))
			if !impl.GridOk(g) {
				t.Errorf("%d rows, number %d is right", rows, at)
			}
		}
	}
}

func TestGridOkOfEachWrongRow(t *testing.T) {
	for _, row := range wrongRows() {
		g := impl.Grid{Cols: int64(len(row)), Rows: [][]impl.Cell{row}}
		if impl.GridOk(g) {
			t.Error(row)
		}
	}
	eachRow(4, func(row []impl.Cell) {
		if !impl.GridOk(gridOf(row)) || !impl.GridOk(gridOf(row, row, row)) {
			t.Fatal(row)
		}
	})
}

func TestNewGrid(t *testing.T) {
	for cols := int64(-2); cols <= 63; cols++ {
		for rows := int64(-2); rows <= 33; rows++ {
			g, ok := impl.NewGrid(cols, rows)
			want := impl.Grid{}
			right := cols >= 1 && cols <= 60 && rows >= 1 && rows <= 30
			if right {
				want = blankGrid(cols, rows)
			}
			if ok != right || !sameGrid(g, want) || impl.GridOk(g) != right {
				t.Fatal(cols, rows, ok, g)
			}
		}
	}
	for _, far := range farNumbers {
		for _, near := range slices.Concat([]int64{0, 1, 20, 30, 60}, farNumbers) {
			if g, ok := impl.NewGrid(far, near); ok || !sameGrid(g, impl.Grid{}) {
				t.Error(far, near, ok)
			}
			if g, ok := impl.NewGrid(near, far); ok || !sameGrid(g, impl.Grid{}) {
				t.Error(near, far, ok)
			}
		}
	}
}

func TestUpAndDownOfEachFewRows(t *testing.T) {
	for rows := 1; rows <= 6; rows++ {
		g, past := signedGrid(rows), int64(rows+1)
		for top := int64(-2); top <= past; top++ {
			for bottom := int64(-2); bottom <= past; bottom++ {
				for n := int64(-2); n <= past; n++ {
					for _, s := range []impl.Style{{}, backStyle, wrongStyle} {
						checkUp(t, g, top, bottom, n, s)
						checkDown(t, g, top, bottom, n, s)
					}
				}
			}
		}
	}
}

func TestUpAndDownByEachCount(t *testing.T) {
	for _, rows := range []int{1, 2, 29, 30} {
		g, last := signedGrid(rows), int64(rows-1)
		for _, n := range farCounts {
			for _, part := range [][2]int64{{0, last}, {0, 0}, {last, last}, {last / 2, last}, {0, last / 2}} {
				checkUp(t, g, part[0], part[1], n, backStyle)
				checkDown(t, g, part[0], part[1], n, backStyle)
			}
		}
	}
}

func TestUpAndDownFarOutOfTheRows(t *testing.T) {
	for _, g := range []impl.Grid{signedGrid(1), signedGrid(3), signedGrid(30)} {
		for _, far := range append([]int64{int64(len(g.Rows))}, farNumbers...) {
			for _, other := range append([]int64{0, int64(len(g.Rows) - 1)}, farNumbers...) {
				for _, n := range []int64{0, 1, 1000, 1001, -1, math.MaxInt64, math.MinInt64} {
					checkUp(t, g, far, other, n, redStyle)
					checkUp(t, g, other, far, n, redStyle)
					checkDown(t, g, far, other, n, redStyle)
					checkDown(t, g, other, far, n, redStyle)
				}
			}
		}
	}
}

func TestUpAndDownOfSomeRows(t *testing.T) {
	a, b, c, d := blanks(3, boldStyle), rowOf(wide(0x4e00, redStyle), whole('b', redStyle)), rowOf(whole('c', redStyle), wide(0x5b57, redStyle)), blanks(3, fullStyle)
	g, fresh := gridOf(a, b, c, d), blanks(3, backStyle)
	for _, each := range []struct {
		top    int64
		bottom int64
		n      int64
		up     [][]impl.Cell
		down   [][]impl.Cell
	}{
		{0, 3, 0, [][]impl.Cell{a, b, c, d}, [][]impl.Cell{a, b, c, d}},
		{0, 3, 1, [][]impl.Cell{b, c, d, fresh}, [][]impl.Cell{fresh, a, b, c}},
		{0, 3, 3, [][]impl.Cell{d, fresh, fresh, fresh}, [][]impl.Cell{fresh, fresh, fresh, a}},
		{0, 3, 4, [][]impl.Cell{fresh, fresh, fresh, fresh}, [][]impl.Cell{fresh, fresh, fresh, fresh}},
		{0, 3, 1000, [][]impl.Cell{fresh, fresh, fresh, fresh}, [][]impl.Cell{fresh, fresh, fresh, fresh}},
		{1, 2, 0, [][]impl.Cell{a, b, c, d}, [][]impl.Cell{a, b, c, d}},
		{1, 2, 1, [][]impl.Cell{a, c, fresh, d}, [][]impl.Cell{a, fresh, b, d}},
		{1, 2, 2, [][]impl.Cell{a, fresh, fresh, d}, [][]impl.Cell{a, fresh, fresh, d}},
		{1, 2, 3, [][]impl.Cell{a, fresh, fresh, d}, [][]impl.Cell{a, fresh, fresh, d}},
		{1, 3, 2, [][]impl.Cell{a, d, fresh, fresh}, [][]impl.Cell{a, fresh, fresh, b}},
		{2, 2, 0, [][]impl.Cell{a, b, c, d}, [][]impl.Cell{a, b, c, d}},
		{2, 2, 1, [][]impl.Cell{a, b, fresh, d}, [][]impl.Cell{a, b, fresh, d}},
		{3, 3, 1, [][]impl.Cell{a, b, c, fresh}, [][]impl.Cell{a, b, c, fresh}},
		{0, 3, 1001, nil, nil}, {0, 3, -1, nil, nil}, {2, 1, 1, nil, nil}, {2, 1, 0, nil, nil}, {-1, 3, 1, nil, nil},
		{-1, -1, 0, nil, nil}, {0, 4, 1, nil, nil}, {0, 4, 0, nil, nil}, {4, 4, 0, nil, nil}, {3, 0, 0, nil, nil},
	} {
		for i, got := range []impl.Grid{impl.Up(g, each.top, each.bottom, each.n, backStyle), impl.Down(g, each.top, each.bottom, each.n, backStyle)} {
			want := impl.Grid{Rows: [][][]impl.Cell{each.up, each.down}[i]}
			if len(want.Rows) > 0 {
				want.Cols = 3
			}
			if !sameGrid(got, want) {
				t.Errorf("%d: from %d to %d by %d: %v, not %v", i, each.top, each.bottom, each.n, got, want)
			}
		}
	}
}

func TestUpAndDownWithEachStyle(t *testing.T) {
	g := signedGrid(3)
	for _, s := range slices.Concat(rightStyles(), wrongStyles()) {
		for n := int64(0); n <= 4; n++ {
			checkUp(t, g, 0, 2, n, s)
			checkDown(t, g, 1, 2, n, s)
		}
	}
}

func TestUpAndDownOfNothingIsTheGridItself(t *testing.T) {
	someGrids(200, func(g impl.Grid, next func(int) int) {
		last := len(g.Rows) - 1
		for range 10 {
			top := next(last + 1)
			bottom := top + next(last-top+1)
			for _, s := range []impl.Style{{}, fullStyle} {
				if got := impl.Up(g, int64(top), int64(bottom), 0, s); !sameGrid(got, g) {
					t.Fatalf("up: %v, not %v", got, g)
				}
				if got := impl.Down(g, int64(top), int64(bottom), 0, s); !sameGrid(got, g) {
					t.Fatalf("down: %v, not %v", got, g)
				}
			}
		}
	})
}

func TestResizedToItsOwnSizeIsTheGridItself(t *testing.T) {
	someGrids(500, func(g impl.Grid, _ func(int) int) {
		if got := impl.Resized(g, g.Cols, int64(len(g.Rows))); !sameGrid(got, g) {
			t.Fatalf("%v, not %v", got, g)
		}
	})
	for cols := 1; cols <= 6; cols++ {
		eachRow(cols, func(row []impl.Cell) {
			g := gridOf(row, blanks(int64(cols), boldStyle))
			if got := impl.Resized(g, int64(cols), 2); !sameGrid(got, g) {
				t.Fatalf("%v, not %v", got, g)
			}
		})
	}
}

func TestResizedOfEachShortRow(t *testing.T) {
	for cols := 1; cols <= 5; cols++ {
		eachRow(cols, func(row []impl.Cell) {
			for to := int64(-1); to <= 7; to++ {
				for rows := int64(-1); rows <= 4; rows++ {
					checkResized(t, gridOf(row, blanks(int64(cols), boldStyle)), to, rows)
				}
			}
		})
	}
}

func TestResizedToEachSize(t *testing.T) {
	someGrids(4, func(g impl.Grid, _ func(int) int) {
		for cols := int64(-1); cols <= 62; cols++ {
			for rows := int64(-1); rows <= 32; rows++ {
				checkResized(t, g, cols, rows)
			}
		}
	})
	for _, g := range []impl.Grid{blankGrid(1, 1), blankGrid(60, 30), signedGrid(2)} {
		for _, far := range farNumbers {
			for _, other := range slices.Concat([]int64{0, 1, 2, 30, 60}, farNumbers) {
				checkResized(t, g, far, other)
				checkResized(t, g, other, far)
			}
		}
	}
}

func TestResizedAtWideRunes(t *testing.T) {
	one, two := wide(0x4e00, boldStyle), wide(0x5b57, redStyle)
	g := gridOf(rowOf(one, whole('a', fullStyle), two), rowOf(whole('b', backStyle), two, one))
	half, other, fresh := blanks(1, boldStyle), blanks(1, redStyle), blanks(2, impl.Style{})
	a, b := whole('a', fullStyle), whole('b', backStyle)
	for _, c := range []struct {
		cols int64
		rows int64
		want [][]impl.Cell
	}{
		{5, 2, g.Rows},
		{4, 2, [][]impl.Cell{rowOf(one, a, other), rowOf(b, two, half)}},
		{3, 2, [][]impl.Cell{rowOf(one, a), rowOf(b, two)}},
		{2, 2, [][]impl.Cell{one, rowOf(b, other)}},
		{1, 2, [][]impl.Cell{half, b}},
		{7, 2, [][]impl.Cell{rowOf(g.Rows[0], fresh), rowOf(g.Rows[1], fresh)}},
		{5, 1, g.Rows[1:]},
		{4, 1, [][]impl.Cell{rowOf(b, two, half)}},
		{5, 4, [][]impl.Cell{g.Rows[0], g.Rows[1], blanks(5, impl.Style{}), blanks(5, impl.Style{})}},
		{1, 3, [][]impl.Cell{half, b, blanks(1, impl.Style{})}},
	} {
		got, want := impl.Resized(g, c.cols, c.rows), impl.Grid{Cols: c.cols, Rows: c.want}
		if !sameGrid(got, want) {
			t.Errorf("%d times %d: %v, not %v", c.cols, c.rows, got, want)
		}
	}
	for _, size := range [][2]int64{{0, 2}, {5, 0}, {61, 2}, {5, 31}, {-1, 2}, {5, -1}} {
		if got := impl.Resized(g, size[0], size[1]); !sameGrid(got, impl.Grid{}) {
			t.Errorf("%v: %v", size, got)
		}
	}
}

// One thing is done to what the other left, again and again.
func TestAGridStaysRight(t *testing.T) {
	styles := rightStyles()
	someGrids(100, func(g impl.Grid, next func(int) int) {
		for range 100 {
			s := styles[next(len(styles))]
			rows := len(g.Rows)
			top := next(rows)
			bottom := top + next(rows-top)
			cols, n := g.Cols, int64(next(4))
			switch next(3) {
			case 0:
				g = impl.Up(g, int64(top), int64(bottom), n, s)
			case 1:
				g = impl.Down(g, int64(top), int64(bottom), n, s)
			case 2:
				cols, rows = int64(1+next(60)), 1+next(30)
				g = impl.Resized(g, cols, int64(rows))
				g.Rows[next(rows)] = mixedRow(int(cols), next)
			}
			if !gridOkOf(g) || !impl.GridOk(g) || g.Cols != cols || len(g.Rows) != rows {
				t.Fatal(g)
			}
		}
	})
}

func TestGridText(t *testing.T) {
	a, one := whole('a', boldStyle), wide(0x4e00, redStyle)
	gap := func(n int64) []impl.Cell { return blanks(n, backStyle) }
	for _, c := range []struct {
		g    impl.Grid
		text string
	}{
		{impl.Grid{}, ""},
		{blankGrid(1, 1), "\n"},
		{blankGrid(60, 30), strings.Repeat("\n", 30)},
		{blankGrid(60, 31), ""},
		{blankGrid(61, 30), ""},
		{blankGrid(0, 3), ""},
		{gridOf(a), "a\n"},
		{gridOf(one), "\xe4\xb8\x80\n"},
		{gridOf(rowOf(a, gap(4)), rowOf(gap(4), a), rowOf(a, gap(3), a)), "a\n    a\na   a\n"},
		{gridOf(rowOf(one, gap(3)), rowOf(gap(3), one), gap(5)), "\xe4\xb8\x80\n   \xe4\xb8\x80\n\n"},
		{gridOf(gap(5), rowOf(one, a, one), gap(5)), "\n\xe4\xb8\x80a\xe4\xb8\x80\n\n"},
		{gridOf(rowOf(whole(160, boldStyle), gap(1)), rowOf(gap(1), whole(65533, redStyle))), "\xc2\xa0\n \xef\xbf\xbd\n"},
		{gridOf(slices.Repeat(one, 30)), strings.Repeat("\xe4\xb8\x80", 30) + "\n"},
		{gridOf(a, gap(2)), ""},
		{gridOf(gap(2), a), ""},
		{impl.Grid{Cols: 2, Rows: [][]impl.Cell{a}}, ""},
		{gridOf(rowOf(a, one[:1])), ""},
		{gridOf(a, whole('b', wrongStyle)), ""},
	} {
		if got := impl.GridText(c.g); got != c.text {
			t.Errorf("%v: %q, not %q", c.g, got, c.text)
		}
	}
	someGrids(300, func(g impl.Grid, _ func(int) int) {
		var want strings.Builder
		for _, row := range g.Rows {
			want.WriteString(impl.RowText(row) + "\n")
		}
		if got := impl.GridText(g); got != want.String() {
			t.Fatalf("%v: %q, not %q", g, got, want.String())
		}
	})
}

// wrongGrids are each wrong by one thing; all else is right.
func wrongGrids() []impl.Grid {
	row, tail := blanks(4, impl.Style{}), rowOf(wide(0x4e00, boldStyle), blanks(2, impl.Style{}))
	all := []impl.Grid{
		{}, {Cols: 4}, {Cols: 4, Rows: [][]impl.Cell{}}, {Cols: 4, Rows: [][]impl.Cell{nil}}, {Rows: [][]impl.Cell{{}, {}}},
		{Cols: 3, Rows: [][]impl.Cell{row, tail}}, {Cols: 5, Rows: [][]impl.Cell{row, tail}}, {Rows: [][]impl.Cell{row, tail}},
		{Cols: -4, Rows: [][]impl.Cell{row, tail}}, {Cols: math.MaxInt64, Rows: [][]impl.Cell{row}}, {Cols: math.MinInt64, Rows: [][]impl.Cell{row}},
		{Cols: 4, Rows: [][]impl.Cell{row, row[:3]}}, {Cols: 4, Rows: [][]impl.Cell{row, tail[:1]}}, {Cols: 3, Rows: [][]impl.Cell{row, row[:3]}},
		gridOf(row, blanks(5, impl.Style{})), gridOf(row, nil), gridOf(row, blanks(4, wrongStyle)), gridOf(blanks(4, wrongStyle), row),
		gridOf(row, rowOf(tail[1:], tail[:1])), gridOf(rowOf(tail[:1], tail[:3]), row),
		blankGrid(60, 31), blankGrid(61, 30), blankGrid(4, 257), blankGrid(61, 1), blankGrid(0, 1), {Cols: 4, Rows: slices.Repeat([][]impl.Cell{row}, 31)},
	}
	for _, wrong := range wrongRows() {
		all = append(all, impl.Grid{Cols: int64(len(wrong)), Rows: [][]impl.Cell{wrong}})
	}
	return all
}

func TestNothingIsMadeOfAWrongGrid(t *testing.T) {
	for _, g := range wrongGrids() {
		if impl.GridOk(g) || impl.GridText(g) != "" {
			t.Errorf("%v: %q", g, impl.GridText(g))
		}
		made := []impl.Grid{
			impl.Up(g, 0, 0, 0, impl.Style{}), impl.Up(g, 0, 0, 1, redStyle), impl.Up(g, 0, int64(len(g.Rows)-1), 1, redStyle),
			impl.Down(g, 0, 0, 0, impl.Style{}), impl.Down(g, 0, 0, 1, redStyle), impl.Down(g, 0, int64(len(g.Rows)-1), 1, redStyle),
			impl.Resized(g, 4, 2), impl.Resized(g, 1, 1), impl.Resized(g, 60, 30), impl.Resized(g, g.Cols, int64(len(g.Rows))),
		}
		for i, got := range made {
			if !sameGrid(got, impl.Grid{}) {
				t.Fatalf("%d of %v: %v", i, g, got)
			}
		}
	}
}

// allGrids is what comes of a grid of 4 rows and 6 columns by each function, also where nothing of it is another.
func allGrids(g impl.Grid) []impl.Grid {
	made := []impl.Grid{
		impl.Up(g, 0, 3, 0, redStyle), impl.Up(g, 1, 2, 1, redStyle), impl.Up(g, 0, 3, 2, redStyle), impl.Up(g, 0, 3, 9, redStyle), impl.Up(g, 2, 2, 1, redStyle),
		impl.Down(g, 0, 3, 0, redStyle), impl.Down(g, 1, 2, 1, redStyle), impl.Down(g, 0, 3, 2, redStyle), impl.Down(g, 0, 3, 9, redStyle), impl.Down(g, 2, 2, 1, redStyle),
		impl.Resized(g, 6, 4), impl.Resized(g, 2, 4), impl.Resized(g, 9, 4), impl.Resized(g, 6, 2), impl.Resized(g, 6, 7), impl.Resized(g, 2, 2), impl.Resized(g, 60, 30),
		impl.Up(g, 3, 2, 1, redStyle), impl.Down(g, 0, 4, 1, redStyle), impl.Resized(g, 61, 4),
	}
	for _, size := range [][2]int64{{1, 1}, {6, 4}, {60, 30}} {
		g, _ := impl.NewGrid(size[0], size[1])
		made = append(made, g)
	}
	return made
}

// roomyRows are the rows of a grid of 4 and 6, each within one more list, with cells ahead of it and behind; two of them are one and the same memory.
func roomyRows() (rows [][]impl.Cell, room []impl.Cell) {
	row := rowOf(whole('a', impl.Style{}), wide(0x4e00, boldStyle), wide(0x5b57, boldStyle), whole('b', fullStyle))
	next := rowOf(wide(0x3000, redStyle), blanks(2, backStyle), wide(0x1f600, redStyle))
	room = rowOf(whole('0', impl.Style{}), row, whole('1', impl.Style{}), next, next, whole('2', impl.Style{}))
	list := [][]impl.Cell{blanks(6, boldStyle), room[1:7], room[8:14], room[1:7], room[14:20], blanks(6, boldStyle)}
	return list[1:5], room
}

// spoil writes over all that can be reached through a row.
func spoil(row []impl.Cell) {
	all := row[:cap(row)]
	for i := range all {
		all[i] = impl.Cell{Rune: -1, Part: -1}
	}
}

func TestGridsArgumentsStayAndAnswersAreNew(t *testing.T) {
	rows, room := roomyRows()
	g := impl.Grid{Cols: 6, Rows: rows}
	if !impl.GridOk(g) || impl.GridText(g) == "" {
		t.Fatal(g)
	}
	before, cells := copyOf(impl.Grid{Cols: 6, Rows: rows[:5]}), slices.Clone(room)
	stays := func() bool {
		return slices.Equal(room, cells) && sameGrid(impl.Grid{Cols: 6, Rows: rows[:5]}, before)
	}
	ahead, answers := allGrids(g), allGrids(g)
	if !stays() {
		t.Fatal("a grid was written into")
	}
	for i, answer := range answers {
		for _, row := range answer.Rows {
			spoil(row)
		}
		clear(answer.Rows[:cap(answer.Rows)])
		if !stays() {
			t.Fatalf("answer %d shares with its grid", i)
		}
	}
	for i, answer := range allGrids(g) {
		if !sameGrid(answer, ahead[i]) {
			t.Errorf("answer %d shares with another: %v, not %v", i, answer, ahead[i])
		}
	}
}

func TestNoRowOfAGridSharesWithAnother(t *testing.T) {
	rows, _ := roomyRows()
	g := impl.Grid{Cols: 6, Rows: rows}
	for i, want := range allGrids(g) {
		for at := range want.Rows {
			got := allGrids(g)[i]
			spoil(got.Rows[at])
			got.Rows[at] = want.Rows[at]
			if !sameGrid(got, want) {
				t.Fatalf("answer %d: row %d shares with another one", i, at)
			}
		}
	}
}

// A function of this layer that panics, or doesn't end, on anything here fails by that.
func TestGridsAnswerAtEveryArgument(t *testing.T) {
	grids := append(wrongGrids()[:26], signedGrid(1), signedGrid(5), blankGrid(60, 30))
	numbers := append([]int64{0, 1, 4, 29, 30}, farNumbers...)
	for _, g := range grids {
		for _, s := range []impl.Style{{}, wrongStyle} {
			for _, one := range numbers {
				for _, two := range numbers {
					for _, n := range []int64{0, 2, 1000, 1001, math.MinInt64, math.MaxInt64} {
						checkUp(t, g, one, two, n, s)
						checkDown(t, g, one, two, n, s)
					}
					checkResized(t, g, one, two)
				}
			}
		}
	}
}

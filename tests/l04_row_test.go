package tests

import (
	"math"
	"slices"
	"strings"
	"testing"

	"loop.example/g00215/impl"
)

var (
	boldStyle  = impl.Style{Bold: true}
	redStyle   = impl.Style{Fore: 2, Under: true}
	backStyle  = impl.Style{Back: 5}
	fullStyle  = impl.Style{Fore: 8, Back: 8, Bold: true, Under: true, Turned: true}
	wrongStyle = impl.Style{Fore: 9}
)

// farNumbers are out of range of any row; some lie within where only their lowest bits are read, and some come round where one is added.
var farNumbers = []int64{
	math.MinInt64, math.MinInt64 + 1, math.MinInt64 + 60, -1 << 32, -1<<32 + 1, -256, -60, -2, -1,
	61, 62, 256, 257, 1 << 16, 1 << 31, 1 << 32, 1<<32 + 1, 1 << 62, math.MaxInt64 - 60, math.MaxInt64 - 1, math.MaxInt64,
}

func whole(r int64, s impl.Style) []impl.Cell {
	return []impl.Cell{{Rune: r, Style: s}}
}

func wide(r int64, s impl.Style) []impl.Cell {
	return []impl.Cell{{Rune: r, Style: s, Part: 1}, {Style: s, Part: 2}}
}

func blanks(n int64, s impl.Style) []impl.Cell {
	return slices.Repeat(whole(32, s), int(n))
}

func rowOf(pieces ...[]impl.Cell) []impl.Cell {
	return slices.Concat(pieces...)
}

// rowPieces are whole and wide cells; two of the wide ones have one style, so that a half of the one and a half of the other look right together.
func rowPieces() [][]impl.Cell {
	return [][]impl.Cell{
		whole('a', impl.Style{}), whole(32, impl.Style{}), whole(32, backStyle),
		wide(0x4e00, boldStyle), wide(0x5b57, boldStyle), wide(0x3000, redStyle),
	}
}

// eachRow gives all rows of that many cells that are made of rowPieces.
func eachRow(cols int, yield func([]impl.Cell)) {
	eachRowBehind(nil, cols, yield)
}

func eachRowBehind(row []impl.Cell, more int, yield func([]impl.Cell)) {
	if more == 0 {
		yield(slices.Clone(row))
		return
	}
	for _, piece := range rowPieces() {
		if len(piece) <= more {
			eachRowBehind(rowOf(row, piece), more-len(piece), yield)
		}
	}
}

// numbersFrom gives numbers in no order, the same ones each time.
func numbersFrom(seed uint64) func(below int) int {
	return func(below int) int {
		seed = seed*6364136223846793005 + 1442695040888963407
		return int(seed>>33) % below
	}
}

// mixedRow is that many cells, of pieces in no order.
func mixedRow(cols int, next func(int) int) []impl.Cell {
	pieces := rowPieces()
	var row []impl.Cell
	for len(row) < cols {
		if piece := pieces[next(len(pieces))]; len(row)+len(piece) <= cols {
			row = append(row, piece...)
		}
	}
	return row
}

// someRows are rows of all lengths, of pieces in no order.
func someRows(count int, yield func([]impl.Cell, func(int) int)) {
	next := numbersFrom(4)
	for range count {
		yield(mixedRow(1+next(60), next), next)
	}
}

// cellOkOf tells by hand whether a cell is right by itself.
func cellOkOf(c impl.Cell) bool {
	right := c.Style.Fore >= 0 && c.Style.Fore < 9 && c.Style.Back >= 0 && c.Style.Back < 9
	one := c.Part == 0 && widthOf(c.Rune) == 1
	two := c.Part == 1 && widthOf(c.Rune) == 2
	none := c.Part == 2 && c.Rune == 0
	return right && (one || two || none)
}

// rowOkOf is RowOk by hand: each cell by itself, and each half looks for its other one.
func rowOkOf(row []impl.Cell) bool {
	right := len(row) >= 1 && len(row) <= 60
	for i, c := range row {
		right = right && cellOkOf(c)
		if c.Part == 1 {
			right = right && i+1 < len(row) && row[i+1].Part == 2 && row[i+1].Style == c.Style
		}
		if c.Part == 2 {
			right = right && i > 0 && row[i-1].Part == 1
		}
	}
	return right
}

// A named cell of a wide rune has a number that only its other half has too; the others have 0.
type named struct {
	cell impl.Cell
	name int
}

func names(row []impl.Cell) []named {
	var list []named
	for i, c := range row {
		name := 0
		if c.Part > 0 {
			name = i + 2 - int(c.Part)
		}
		list = append(list, named{c, name})
	}
	return list
}

// mended is the row without names: a half that does not stand beside its own other half is blank.
func mended(list []named) []impl.Cell {
	beside := func(i int, name int) bool {
		return i >= 0 && i < len(list) && list[i].name == name
	}
	var row []impl.Cell
	for i, n := range list {
		if n.cell.Part == 1 && !beside(i+1, n.name) || n.cell.Part == 2 && !beside(i-1, n.name) {
			n.cell = impl.Cell{Rune: 32, Style: n.cell.Style}
		}
		row = append(row, n.cell)
	}
	return row
}

// clearedOf is Cleared by hand.
func clearedOf(row []impl.Cell, from int64, to int64, s impl.Style) []impl.Cell {
	cols := int64(len(row))
	if !rowOkOf(row) || !impl.StyleOk(s) || from < 0 || from > cols || to < from || to > cols {
		return nil
	}
	list := names(row)
	return mended(slices.Concat(list[:from], names(blanks(to-from, s)), list[to:]))
}

// writtenOf is Written by hand.
func writtenOf(row []impl.Cell, at int64, r int64, s impl.Style) []impl.Cell {
	piece := whole(r, s)
	if widthOf(r) == 2 {
		piece = wide(r, s)
	}
	cols := int64(len(row))
	if at < 0 || at >= cols || widthOf(r) == 0 {
		return nil
	}
	made := clearedOf(row, at, at+int64(len(piece)), s)
	copy(made[min(at, int64(len(made))):], piece)
	return made
}

func movedOf(row []impl.Cell, at int64, n int64, s impl.Style) bool {
	cols := int64(len(row))
	return rowOkOf(row) && impl.StyleOk(s) && at >= 0 && at < cols && n >= 0 && n <= cols
}

// pushedOf is Pushed by hand.
func pushedOf(row []impl.Cell, at int64, n int64, s impl.Style) []impl.Cell {
	if !movedOf(row, at, n, s) {
		return nil
	}
	list := names(row)
	return mended(slices.Concat(list[:at], names(blanks(n, s)), list[at:])[:len(row)])
}

// pulledOf is Pulled by hand.
func pulledOf(row []impl.Cell, at int64, n int64, s impl.Style) []impl.Cell {
	if !movedOf(row, at, n, s) {
		return nil
	}
	list := names(row)
	left := slices.Concat(list[:at], list[min(at+n, int64(len(list))):])
	return mended(slices.Concat(left, names(blanks(int64(len(row)-len(left)), s))))
}

// checkRow holds what was made of a row against what should have been, which is nothing or a right row as long.
func checkRow(t *testing.T, what string, row []impl.Cell, numbers [2]int64, got []impl.Cell, want []impl.Cell) {
	t.Helper()
	if !slices.Equal(got, want) {
		t.Fatalf("%v %s %v: %v, not %v", row, what, numbers, got, want)
	}
	if len(got) > 0 && (!rowOkOf(got) || !impl.RowOk(got) || len(got) != len(row)) {
		t.Fatalf("%v %s %v: %v is wrong", row, what, numbers, got)
	}
}

func checkCleared(t *testing.T, row []impl.Cell, from int64, to int64, s impl.Style) {
	t.Helper()
	checkRow(t, "Cleared", row, [2]int64{from, to}, impl.Cleared(row, from, to, s), clearedOf(row, from, to, s))
}

func checkWritten(t *testing.T, row []impl.Cell, at int64, r int64, s impl.Style) {
	t.Helper()
	checkRow(t, "Written", row, [2]int64{at, r}, impl.Written(row, at, r, s), writtenOf(row, at, r, s))
}

func checkPushed(t *testing.T, row []impl.Cell, at int64, n int64, s impl.Style) {
	t.Helper()
	checkRow(t, "Pushed", row, [2]int64{at, n}, impl.Pushed(row, at, n, s), pushedOf(row, at, n, s))
}

func checkPulled(t *testing.T, row []impl.Cell, at int64, n int64, s impl.Style) {
	t.Helper()
	checkRow(t, "Pulled", row, [2]int64{at, n}, impl.Pulled(row, at, n, s), pulledOf(row, at, n, s))
}

// edgeCells are right by themselves and wrong, with what lies right beside the edges.
func edgeCells() []impl.Cell {
	var all []impl.Cell
	for part := int64(-2); part <= 4; part++ {
		for _, r := range []int64{0, 1, 31, 32, 97, 126, 127, 159, 160, 768, 4351, 4352, 4447, 4448, 0x4e00, 55295, 55296, 57344, 131071, 131072, 1114111, 1114112, -1, -97, 1 << 32, 1<<32 + 97} {
			for _, s := range []impl.Style{{}, fullStyle, {Fore: 9}, {Back: 9}, {Fore: -1}, {Back: -1}} {
				all = append(all, impl.Cell{Rune: r, Style: s, Part: part})
			}
		}
	}
	for _, part := range []int64{math.MinInt64, -1 << 32, 255, 256, 257, 258, 1 << 32, 1<<32 + 1, 1<<32 + 2, math.MaxInt64} {
		all = append(all, impl.Cell{Rune: 97, Part: part}, impl.Cell{Rune: 0x4e00, Part: part}, impl.Cell{Part: part})
	}
	return all
}

func TestRowOkOfEachLength(t *testing.T) {
	for n, right := range map[int64]bool{0: false, 1: true, 2: true, 59: true, 60: true, 61: false, 62: false, 120: false, 256: false, 257: false, 65537: false} {
		if impl.RowOk(blanks(n, impl.Style{})) != right {
			t.Error(n)
		}
	}
	wides := slices.Repeat(wide(0x4e00, boldStyle), 30)
	if !impl.RowOk(wides) || impl.RowOk(rowOf(wides, wide(0x4e00, boldStyle))) || impl.RowOk(wides[:59]) || impl.RowOk(wides[1:]) {
		t.Error("wide runes alone")
	}
	if impl.RowOk(nil) || impl.MaxCols != 60 {
		t.Error(impl.MaxCols)
	}
}

func TestRowOkOfEachCell(t *testing.T) {
	first, second := wide(0x4e00, fullStyle)[:1], wide(0x4e00, fullStyle)[1:]
	for _, c := range edgeCells() {
		it := []impl.Cell{c}
		for _, row := range [][]impl.Cell{
			it,
			rowOf(it, whole('b', impl.Style{})),
			rowOf(whole('b', impl.Style{}), it),
			rowOf(it, second),
			rowOf(first, it),
			rowOf(whole('b', boldStyle), it, second, whole('b', boldStyle)),
			rowOf(whole('b', boldStyle), first, it, whole('b', boldStyle)),
			rowOf(first, second, it, first, second),
			rowOf(blanks(58, redStyle), first, it),
			rowOf(it, second, blanks(58, redStyle)),
		} {
			if impl.RowOk(row) != rowOkOf(row) {
				t.Fatalf("%v: %v", row, impl.RowOk(row))
			}
		}
	}
}

func TestRowOkOfEachFewCells(t *testing.T) {
	cells := []impl.Cell{
		{Rune: 97}, {Rune: 32, Style: boldStyle}, {Rune: 0x4e00}, {Rune: 97, Part: 2}, {Rune: 97, Part: 1}, {},
		{Rune: 0x4e00, Part: 1}, {Part: 2}, {Rune: 0x4e00, Style: boldStyle, Part: 1}, {Style: boldStyle, Part: 2},
	}
	right := 0
	for code := range 10000 {
		row := []impl.Cell{cells[code%10], cells[code/10%10], cells[code/100%10], cells[code/1000]}
		for cols := 1; cols <= 4; cols++ {
			if impl.RowOk(row[:cols]) != rowOkOf(row[:cols]) {
				t.Fatalf("%v: %v", row[:cols], impl.RowOk(row[:cols]))
			}
		}
		if impl.RowOk(row) {
			right++
		}
	}
	if right != 16+3*4*2+4 {
		t.Error(right)
	}
}

func TestRowOkOfSomeRows(t *testing.T) {
	for _, c := range []struct {
		row   []impl.Cell
		right bool
	}{
		{[]impl.Cell{{}}, false},
		{[]impl.Cell{{Rune: 97, Part: -1}}, false},
		{[]impl.Cell{{Rune: 97, Part: 3}}, false},
		{[]impl.Cell{{Rune: 0x4e00}}, false},
		{[]impl.Cell{{Rune: 0x301}}, false},
		{[]impl.Cell{{Rune: 97, Part: 1}, {Part: 2}}, false},
		{[]impl.Cell{{Rune: 97, Style: impl.Style{Fore: 9}}}, false},
		{[]impl.Cell{{Rune: 97, Style: impl.Style{Back: -1}}}, false},
		{wide(0x4e00, impl.Style{Fore: 9}), false},
		{wide(0x4e00, redStyle), true},
		{[]impl.Cell{{Rune: 0x4e00, Part: 1}, {Rune: 32, Part: 2}}, false},
		{[]impl.Cell{{Rune: 0x4e00, Part: 1}, {Rune: 0x4e00, Part: 2}}, false},
		{[]impl.Cell{{Rune: 0x4e00, Part: 1}, {Style: boldStyle, Part: 2}}, false},
		{[]impl.Cell{{Rune: 0x4e00, Part: 1}}, false},
		{[]impl.Cell{{Part: 2}}, false},
		{rowOf(whole('a', impl.Style{}), wide(0x4e00, redStyle)[:1]), false},
		{rowOf(wide(0x4e00, redStyle)[1:], whole('a', impl.Style{})), false},
		{rowOf(wide(0x4e00, redStyle)[:1], wide(0x4e00, redStyle)), false},
		{rowOf(wide(0x4e00, redStyle), wide(0x4e00, redStyle)[1:]), false},
		{rowOf(wide(0x4e00, redStyle), wide(0x4e00, boldStyle)), true},
		{rowOf(wide(0x4e00, redStyle)[:1], whole('a', redStyle), wide(0x4e00, redStyle)[1:]), false},
	} {
		if impl.RowOk(c.row) != c.right {
			t.Errorf("%v: %v", c.row, !c.right)
		}
	}
}

func TestBlank(t *testing.T) {
	for _, s := range rightStyles() {
		for _, cols := range []int64{1, 2, 59, 60} {
			if row := impl.Blank(cols, s); !slices.Equal(row, blanks(cols, s)) || !impl.RowOk(row) {
				t.Fatal(cols, s, row)
			}
		}
	}
	for cols := int64(-3); cols <= 70; cols++ {
		row := impl.Blank(cols, redStyle)
		if right := cols >= 1 && cols <= 60; right && !slices.Equal(row, blanks(cols, redStyle)) || !right && len(row) > 0 {
			t.Error(cols, row)
		}
	}
	for _, cols := range append([]int64{0}, farNumbers...) {
		if row := impl.Blank(cols, impl.Style{}); len(row) > 0 {
			t.Error(cols, len(row))
		}
	}
	for _, s := range wrongStyles() {
		for _, cols := range []int64{0, 1, 20, 60, 61} {
			if row := impl.Blank(cols, s); len(row) > 0 {
				t.Error(cols, s, row)
			}
		}
	}
}

func TestClearedOfEachShortRow(t *testing.T) {
	for cols := 1; cols <= 6; cols++ {
		eachRow(cols, func(row []impl.Cell) {
			for from := int64(-1); from <= int64(cols+1); from++ {
				for to := int64(-1); to <= int64(cols+1); to++ {
					checkCleared(t, row, from, to, backStyle)
					checkCleared(t, row, from, to, boldStyle)
				}
			}
		})
	}
}

func TestWrittenOfEachShortRow(t *testing.T) {
	for cols := 1; cols <= 6; cols++ {
		eachRow(cols, func(row []impl.Cell) {
			for at := int64(-2); at <= int64(cols+1); at++ {
				for _, r := range []int64{'x', 32, 0x5b57, 0x3000, 0, 27, 127, 0x301, -1, 55296, 1114112} {
					checkWritten(t, row, at, r, backStyle)
					checkWritten(t, row, at, r, boldStyle)
				}
			}
		})
	}
}

func TestPushedAndPulledOfEachShortRow(t *testing.T) {
	for cols := 1; cols <= 6; cols++ {
		eachRow(cols, func(row []impl.Cell) {
			for at := int64(-1); at <= int64(cols+1); at++ {
				for n := int64(-1); n <= int64(cols+1); n++ {
					for _, s := range []impl.Style{backStyle, boldStyle} {
						checkPushed(t, row, at, n, s)
						checkPulled(t, row, at, n, s)
					}
				}
			}
		})
	}
}

func TestWhateverIsDoneToLongRows(t *testing.T) {
	styles := rightStyles()
	someRows(3000, func(row []impl.Cell, next func(int) int) {
		for range 20 {
			s := styles[next(len(styles))]
			one, two := int64(next(len(row)+3)-1), int64(next(len(row)+3)-1)
			checkCleared(t, row, one, two, s)
			checkPushed(t, row, one, two, s)
			checkPulled(t, row, one, two, s)
			checkWritten(t, row, one, []int64{'y', 0x4e01, 0x1f600, 32, 0x302}[next(5)], s)
		}
	})
}

// One thing is done to what the other left, again and again.
func TestARowStaysRightAndAsLong(t *testing.T) {
	styles := rightStyles()
	someRows(200, func(row []impl.Cell, next func(int) int) {
		cols := len(row)
		for range 100 {
			s := styles[next(len(styles))]
			at, n := int64(next(cols)), int64(next(cols+1))
			made := row
			switch next(4) {
			case 0:
				made = impl.Cleared(row, min(at, n), max(at, n), s)
			case 1:
				made = impl.Pushed(row, at, n%4, s)
			case 2:
				made = impl.Pulled(row, at, n%4, s)
			case 3:
				made = impl.Written(row, at, []int64{'z', 0x4e00, 0x1f600}[next(3)], s)
				if len(made) == 0 && int(at) == cols-1 {
					made = row
				}
			}
			if !rowOkOf(made) || !impl.RowOk(made) || len(made) != cols {
				t.Fatalf("%v, %d, %d: %v", row, at, n, made)
			}
			row = made
		}
	})
}

// halfOf tells whether a cell is a half of a wide rune whose other half lies from number from to below to.
func halfOf(row []impl.Cell, at int, from int, to int) bool {
	within := func(i int) bool { return i >= from && i < to }
	return row[at].Part == 1 && within(at+1) || row[at].Part == 2 && within(at-1)
}

func TestWhatIsWrittenStandsThereAndNoOtherCellIsAnother(t *testing.T) {
	for cols := 1; cols <= 6; cols++ {
		eachRow(cols, func(row []impl.Cell) {
			for at := 0; at < cols; at++ {
				for _, r := range []int64{'x', 32, 0x5b57} {
					n := int(widthOf(r))
					made := impl.Written(row, int64(at), r, redStyle)
					if at+n > cols {
						continue
					}
					if made[at] != (impl.Cell{Rune: r, Style: redStyle, Part: int64(n - 1)}) || n == 2 && made[at+1] != (impl.Cell{Style: redStyle, Part: 2}) {
						t.Fatalf("%d at %d in %v: %v", r, at, row, made)
					}
					for i := range made {
						want := row[i]
						if halfOf(row, i, at, at+n) {
							want = impl.Cell{Rune: 32, Style: row[i].Style}
						}
						if (i < at || i >= at+n) && made[i] != want {
							t.Fatalf("%d at %d in %v: %v", r, at, row, made)
						}
					}
				}
			}
		})
	}
}

func TestClearedAtWideRunes(t *testing.T) {
	one, two := wide(0x4e00, boldStyle), wide(0x5b57, redStyle)
	a, b := whole('a', impl.Style{}), whole('b', fullStyle)
	row := rowOf(a, one, two, b)
	half, other := blanks(1, boldStyle), blanks(1, redStyle)
	for _, c := range []struct {
		from int64
		to   int64
		want []impl.Cell
	}{
		{0, 0, row}, {1, 1, row}, {2, 2, row}, {4, 4, row}, {6, 6, row},
		{0, 1, rowOf(blanks(1, backStyle), one, two, b)},
		{1, 3, rowOf(a, blanks(2, backStyle), two, b)},
		{1, 2, rowOf(a, blanks(1, backStyle), half, two, b)},
		{2, 3, rowOf(a, half, blanks(1, backStyle), two, b)},
		{2, 5, rowOf(a, half, blanks(3, backStyle), b)},
		{1, 4, rowOf(a, blanks(3, backStyle), other, b)},
		{2, 4, rowOf(a, half, blanks(2, backStyle), other, b)},
		{4, 6, rowOf(a, one, other, blanks(2, backStyle))},
		{0, 2, rowOf(blanks(2, backStyle), half, two, b)},
		{0, 6, blanks(6, backStyle)},
		{5, 6, rowOf(a, one, two, blanks(1, backStyle))},
		{1, 0, nil}, {6, 5, nil}, {6, 0, nil}, {-1, 0, nil}, {-1, -1, nil}, {0, -1, nil}, {0, 7, nil}, {7, 7, nil}, {6, 7, nil}, {7, 6, nil},
	} {
		if got := impl.Cleared(row, c.from, c.to, backStyle); !slices.Equal(got, c.want) {
			t.Errorf("from %d to %d: %v, not %v", c.from, c.to, got, c.want)
		}
	}
}

func TestWrittenAtWideRunes(t *testing.T) {
	one, two := wide(0x4e00, boldStyle), wide(0x5b57, redStyle)
	a, b := whole('a', impl.Style{}), whole('b', fullStyle)
	row := rowOf(a, one, two, b)
	half, other := blanks(1, boldStyle), blanks(1, redStyle)
	x, w := whole('x', backStyle), wide(0x1f600, backStyle)
	for _, c := range []struct {
		at   int64
		r    int64
		want []impl.Cell
	}{
		{0, 'x', rowOf(x, one, two, b)},
		{1, 'x', rowOf(a, x, half, two, b)},
		{2, 'x', rowOf(a, half, x, two, b)},
		{5, 'x', rowOf(a, one, two, x)},
		{1, 32, rowOf(a, blanks(1, backStyle), half, two, b)},
		{0, 0x1f600, rowOf(w, half, two, b)},
		{1, 0x1f600, rowOf(a, w, two, b)},
		{2, 0x1f600, rowOf(a, half, w, other, b)},
		{3, 0x1f600, rowOf(a, one, w, b)},
		{4, 0x1f600, rowOf(a, one, other, w)},
		{5, 0x1f600, nil}, {6, 'x', nil}, {6, 0x1f600, nil}, {-1, 'x', nil}, {-1, 0x1f600, nil}, {-2, 0x1f600, nil},
		{0, 0, nil}, {0, 27, nil}, {0, 31, nil}, {0, 127, nil}, {0, 0x301, nil}, {2, 0x301, nil},
		{0, -1, nil}, {0, 55296, nil}, {0, 1114112, nil}, {0, math.MinInt64, nil}, {0, math.MaxInt64, nil},
	} {
		if got := impl.Written(row, c.at, c.r, backStyle); !slices.Equal(got, c.want) {
			t.Errorf("%d at %d: %v, not %v", c.r, c.at, got, c.want)
		}
	}
}

func TestWrittenIntoOneCellAndIntoTwo(t *testing.T) {
	single := whole('a', impl.Style{})
	if got := impl.Written(single, 0, 'b', redStyle); !slices.Equal(got, whole('b', redStyle)) {
		t.Error(got)
	}
	if got := impl.Written(single, 0, 0x4e00, redStyle); len(got) > 0 {
		t.Error(got)
	}
	if got := impl.Written(blanks(2, impl.Style{}), 0, 0x4e00, redStyle); !slices.Equal(got, wide(0x4e00, redStyle)) {
		t.Error(got)
	}
	if got := impl.Written(wide(0x4e00, redStyle), 0, 0x5b57, boldStyle); !slices.Equal(got, wide(0x5b57, boldStyle)) {
		t.Error(got)
	}
}

func TestWrittenOfEachRune(t *testing.T) {
	row := rowOf(wide(0x4e00, boldStyle), wide(0x5b57, redStyle), whole('b', impl.Style{}))
	runes := slices.Clone(noRunes)
	for r := range edgeWidths {
		runes = append(runes, r)
	}
	for _, r := range runes {
		for at := int64(-1); at <= 6; at++ {
			checkWritten(t, row, at, r, backStyle)
		}
	}
}

func TestPushedAtWideRunes(t *testing.T) {
	one, two := wide(0x4e00, boldStyle), wide(0x5b57, redStyle)
	a, b := whole('a', impl.Style{}), whole('b', fullStyle)
	row := rowOf(a, one, two, b)
	half, other := blanks(1, boldStyle), blanks(1, redStyle)
	fresh := func(n int64) []impl.Cell { return blanks(n, backStyle) }
	for _, c := range []struct {
		at   int64
		n    int64
		want []impl.Cell
	}{
		{0, 0, row}, {1, 0, row}, {2, 0, row}, {4, 0, row}, {5, 0, row},
		{0, 1, rowOf(fresh(1), a, one, two)},
		{0, 2, rowOf(fresh(2), a, one, other)},
		{0, 3, rowOf(fresh(3), a, one)},
		{0, 4, rowOf(fresh(4), a, half)},
		{0, 5, rowOf(fresh(5), a)},
		{0, 6, fresh(6)},
		{0, 7, nil},
		{1, 1, rowOf(a, fresh(1), one, two)},
		{1, 2, rowOf(a, fresh(2), one, other)},
		{1, 4, rowOf(a, fresh(4), half)},
		{1, 5, rowOf(a, fresh(5))},
		{1, 6, rowOf(a, fresh(5))},
		{2, 1, rowOf(a, half, fresh(1), half, two)},
		{2, 2, rowOf(a, half, fresh(2), half, other)},
		{2, 3, rowOf(a, half, fresh(3), half)},
		{2, 4, rowOf(a, half, fresh(4))},
		{2, 6, rowOf(a, half, fresh(4))},
		{2, 7, nil},
		{4, 1, rowOf(a, one, other, fresh(1), other)},
		{4, 2, rowOf(a, one, other, fresh(2))},
		{5, 1, rowOf(a, one, two, fresh(1))},
		{5, 6, rowOf(a, one, two, fresh(1))},
		{5, 7, nil}, {6, 0, nil}, {6, 1, nil}, {-1, 0, nil}, {-1, 1, nil}, {0, -1, nil}, {2, -1, nil},
	} {
		if got := impl.Pushed(row, c.at, c.n, backStyle); !slices.Equal(got, c.want) {
			t.Errorf("%d at %d: %v, not %v", c.n, c.at, got, c.want)
		}
	}
}

func TestPulledAtWideRunes(t *testing.T) {
	one, two := wide(0x4e00, boldStyle), wide(0x5b57, boldStyle)
	a, b := whole('a', impl.Style{}), whole('b', fullStyle)
	row := rowOf(a, one, two, b)
	half := blanks(1, boldStyle)
	fresh := func(n int64) []impl.Cell { return blanks(n, backStyle) }
	for _, c := range []struct {
		at   int64
		n    int64
		want []impl.Cell
	}{
		{0, 0, row}, {1, 0, row}, {2, 0, row}, {4, 0, row}, {5, 0, row},
		{0, 1, rowOf(one, two, b, fresh(1))},
		{0, 2, rowOf(half, two, b, fresh(2))},
		{0, 3, rowOf(two, b, fresh(3))},
		{0, 4, rowOf(half, b, fresh(4))},
		{0, 6, fresh(6)},
		{0, 7, nil},
		{1, 1, rowOf(a, half, two, b, fresh(1))},
		{1, 2, rowOf(a, two, b, fresh(2))},
		{1, 3, rowOf(a, half, b, fresh(3))},
		{1, 5, rowOf(a, fresh(5))},
		{1, 6, rowOf(a, fresh(5))},
		{2, 1, rowOf(a, half, two, b, fresh(1))},
		{2, 2, rowOf(a, half, half, b, fresh(2))},
		{2, 3, rowOf(a, half, b, fresh(3))},
		{2, 4, rowOf(a, half, fresh(4))},
		{2, 6, rowOf(a, half, fresh(4))},
		{2, 7, nil},
		{5, 1, rowOf(a, one, two, fresh(1))},
		{5, 6, rowOf(a, one, two, fresh(1))},
		{5, 7, nil}, {6, 0, nil}, {6, 1, nil}, {-1, 0, nil}, {-1, 1, nil}, {0, -1, nil}, {2, -1, nil},
	} {
		if got := impl.Pulled(row, c.at, c.n, backStyle); !slices.Equal(got, c.want) {
			t.Errorf("%d at %d: %v, not %v", c.n, c.at, got, c.want)
		}
	}
}

func TestRowText(t *testing.T) {
	a, b := whole('a', boldStyle), whole('b', impl.Style{})
	one, space := wide(0x4e00, redStyle), wide(0x3000, redStyle)
	for _, c := range []struct {
		row  []impl.Cell
		text string
	}{
		{nil, ""},
		{blanks(1, impl.Style{}), ""},
		{blanks(1, fullStyle), ""},
		{blanks(60, impl.Style{}), ""},
		{blanks(61, impl.Style{}), ""},
		{rowOf(a, blanks(61, impl.Style{})), ""},
		{rowOf(a, blanks(59, impl.Style{})), "a"},
		{rowOf(blanks(59, impl.Style{}), a), strings.Repeat(" ", 59) + "a"},
		{rowOf(a, blanks(2, backStyle), b, blanks(2, backStyle)), "a  b"},
		{rowOf(blanks(1, backStyle), a, blanks(1, impl.Style{})), " a"},
		{rowOf(one, a, one, blanks(1, impl.Style{})), "\xe4\xb8\x80a\xe4\xb8\x80"},
		{rowOf(blanks(1, backStyle), one, blanks(2, impl.Style{}), one, b, blanks(2, fullStyle)), " \xe4\xb8\x80  \xe4\xb8\x80b"},
		{rowOf(a, space, blanks(1, impl.Style{})), "a\xe3\x80\x80"},
		{rowOf(a, whole(160, impl.Style{}), blanks(1, impl.Style{})), "a\xc2\xa0"},
		{rowOf(a, whole(0x2003, impl.Style{}), blanks(3, impl.Style{})), "a\xe2\x80\x83"},
		{rowOf(whole(65533, impl.Style{}), wide(0x1f600, impl.Style{})), "\xef\xbf\xbd\xf0\x9f\x98\x80"},
		{slices.Repeat(one, 30), strings.Repeat("\xe4\xb8\x80", 30)},
		{rowOf(a, one[:1]), ""},
		{rowOf(one[1:], a), ""},
		{whole('a', wrongStyle), ""},
		{rowOf(a, whole(10, impl.Style{})), ""},
	} {
		if got := impl.RowText(c.row); got != c.text {
			t.Errorf("%v: %q, not %q", c.row, got, c.text)
		}
	}
}

func TestRowTextOfEachShortRow(t *testing.T) {
	for cols := 1; cols <= 6; cols++ {
		eachRow(cols, func(row []impl.Cell) {
			var text strings.Builder
			for _, c := range row {
				if c.Part < 2 {
					text.WriteRune(rune(c.Rune))
				}
			}
			want := text.String()
			for strings.HasSuffix(want, " ") {
				want = want[:len(want)-1]
			}
			if got := impl.RowText(row); got != want {
				t.Fatalf("%v: %q, not %q", row, got, want)
			}
		})
	}
}

// wrongRows are each wrong by one thing; the last cells are right, so that what is done there would be possible else.
func wrongRows() [][]impl.Cell {
	tail := whole('t', impl.Style{})
	one, two := wide(0x4e00, boldStyle), wide(0x4e00, redStyle)
	all := [][]impl.Cell{
		nil, {}, blanks(61, impl.Style{}), slices.Repeat(one, 31), blanks(300, impl.Style{}),
		rowOf(one[:1], tail), rowOf(one[1:], tail), rowOf(tail, one[:1]), rowOf(one[:1], two[1:], tail),
		rowOf(one[:1], one, tail), rowOf(one, one[1:], tail),
	}
	for _, c := range edgeCells() {
		if c.Part < 1 && !cellOkOf(c) || c.Part > 2 {
			all = append(all, rowOf([]impl.Cell{c}, tail))
		}
		if c.Part == 1 && !cellOkOf(c) {
			all = append(all, rowOf([]impl.Cell{c, {Style: c.Style, Part: 2}}, tail))
		}
	}
	return all
}

// checkNothing holds all that can be done to a row with these numbers and this style to be nothing.
func checkNothing(t *testing.T, row []impl.Cell, one int64, two int64, s impl.Style) {
	t.Helper()
	made := [][]impl.Cell{
		impl.Cleared(row, one, two, s),
		impl.Written(row, one, 'x', s),
		impl.Written(row, one, 0x4e00, s),
		impl.Pushed(row, one, two, s),
		impl.Pulled(row, one, two, s),
	}
	for i, cells := range made {
		if len(cells) > 0 {
			t.Fatalf("%d: %v, %d, %d, %v: %v", i, row, one, two, s, cells)
		}
	}
}

func TestNothingIsMadeOfAWrongRow(t *testing.T) {
	for _, row := range wrongRows() {
		if impl.RowOk(row) || impl.RowText(row) != "" {
			t.Errorf("%v: %q", row, impl.RowText(row))
		}
		for _, numbers := range [][2]int64{{0, 0}, {0, 1}, {1, 1}, {1, 2}, {2, 2}, {0, int64(len(row))}} {
			checkNothing(t, row, numbers[0], numbers[1], impl.Style{})
		}
	}
}

func TestNothingIsMadeWithAWrongStyle(t *testing.T) {
	row := rowOf(whole('a', impl.Style{}), wide(0x4e00, boldStyle), blanks(2, impl.Style{}))
	for _, s := range wrongStyles() {
		for one := int64(0); one <= 5; one++ {
			for two := int64(0); two <= 5; two++ {
				checkNothing(t, row, one, two, s)
			}
		}
	}
}

func TestNothingIsMadeFarOutOfARow(t *testing.T) {
	for _, row := range [][]impl.Cell{
		whole('a', impl.Style{}),
		wide(0x4e00, boldStyle),
		rowOf(wide(0x4e00, boldStyle), blanks(57, impl.Style{}), whole('z', redStyle)),
	} {
		for _, far := range farNumbers {
			for near := int64(0); near <= int64(len(row)); near++ {
				checkNothing(t, row, far, near, impl.Style{})
				for _, made := range [][]impl.Cell{
					impl.Cleared(row, near, far, impl.Style{}),
					impl.Pushed(row, near, far, impl.Style{}),
					impl.Pulled(row, near, far, impl.Style{}),
				} {
					if len(made) > 0 {
						t.Fatal(row, near, far, made)
					}
				}
			}
		}
	}
}

// allMade is what comes of a row by each function, also where nothing of it is another.
func allMade(row []impl.Cell) [][]impl.Cell {
	return [][]impl.Cell{
		impl.Cleared(row, 0, 0, redStyle), impl.Cleared(row, 2, 2, redStyle), impl.Cleared(row, 2, 4, redStyle), impl.Cleared(row, 0, 6, redStyle),
		impl.Written(row, 0, 'x', redStyle), impl.Written(row, 2, 0x5b57, redStyle), impl.Written(row, 4, 0x5b57, redStyle), impl.Written(row, 5, 'x', redStyle),
		impl.Pushed(row, 2, 0, redStyle), impl.Pushed(row, 2, 1, redStyle), impl.Pushed(row, 0, 2, redStyle), impl.Pushed(row, 0, 6, redStyle),
		impl.Pulled(row, 2, 0, redStyle), impl.Pulled(row, 2, 1, redStyle), impl.Pulled(row, 2, 2, redStyle), impl.Pulled(row, 0, 6, redStyle),
		impl.Cleared(row, 3, 2, redStyle), impl.Written(row, 5, 0x5b57, redStyle), impl.Pushed(row, 2, 7, redStyle), impl.Pulled(row, 6, 0, redStyle),
	}
}

func TestRowsArgumentsStayAndAnswersAreNew(t *testing.T) {
	made := rowOf(whole('a', impl.Style{}), wide(0x4e00, boldStyle), wide(0x5b57, boldStyle), whole('b', fullStyle))
	room := rowOf(whole('0', impl.Style{}), made, whole('1', impl.Style{}), whole('2', impl.Style{}))
	before := slices.Clone(room)
	row := room[1:7]
	ahead, answers := allMade(row), allMade(row)
	if !impl.RowOk(row) || impl.RowText(row) != "a\xe4\xb8\x80\xe5\xad\x97b" || !slices.Equal(room, before) {
		t.Fatal(room)
	}
	for i, answer := range answers {
		all := answer[:cap(answer)]
		for j := range all {
			all[j] = impl.Cell{Rune: -1, Part: -1}
		}
		if !slices.Equal(room, before) {
			t.Fatalf("answer %d shares with its row", i)
		}
	}
	for i, answer := range allMade(row) {
		if !slices.Equal(answer, ahead[i]) {
			t.Errorf("answer %d shares with another: %v, not %v", i, answer, ahead[i])
		}
	}
	one, two := impl.Blank(3, redStyle), impl.Blank(3, redStyle)
	clear(one[:cap(one)])
	if !slices.Equal(two, blanks(3, redStyle)) || !slices.Equal(impl.Blank(3, redStyle), two) {
		t.Error(two)
	}
}

// A function of this layer that panics, or doesn't end, on anything here fails by that.
func TestRowsAnswerAtEveryArgument(t *testing.T) {
	rows := append(wrongRows(), whole('a', impl.Style{}), wide(0x4e00, boldStyle), blanks(60, redStyle))
	numbers := append([]int64{0, 1, 2, 59, 60}, farNumbers...)
	for _, row := range rows {
		for _, s := range []impl.Style{{}, wrongStyle} {
			for _, one := range numbers {
				for _, two := range numbers {
					checkCleared(t, row, one, two, s)
					checkPushed(t, row, one, two, s)
					checkPulled(t, row, one, two, s)
				}
				for _, r := range []int64{'x', 0x4e00, 0, -1, math.MaxInt64} {
					checkWritten(t, row, one, r, s)
				}
			}
		}
	}
}

package tests

import (
	"math"
	"slices"
	"strings"
	"testing"
	"unicode/utf8"

	"loop.example/g00215/impl"
)

// edgeWidths are the first and the last runes of each width, and what lies right beside them.
var edgeWidths = map[int64]int64{
	0: 0, 7: 0, 27: 0, 30: 0, 31: 0, 32: 1, 33: 1,
	97: 1, 125: 1, 126: 1, 127: 0, 128: 0, 158: 0, 159: 0, 160: 1, 161: 1,
	766: 1, 767: 1, 768: 0, 769: 0, 878: 0, 879: 0, 880: 1, 881: 1,
	4350: 1, 4351: 1, 4352: 2, 4353: 2, 4446: 2, 4447: 2, 4448: 1, 4449: 1,
	12286: 1, 12287: 1, 12288: 2, 12289: 2, 19968: 2, 55294: 2, 55295: 2,
	57344: 1, 57345: 1, 65533: 1, 65535: 1, 65536: 1,
	127742: 1, 127743: 1, 127744: 2, 127745: 2, 128512: 2, 131070: 2, 131071: 2, 131072: 1, 131073: 1,
	1114110: 1, 1114111: 1,
}

// widthOf is Width by hand, the other way round than the program has it: wide ones first.
func widthOf(r int64) int64 {
	wide := r >= 4352 && r < 4448 || r >= 12288 && r < 55296 || r >= 127744 && r < 131072
	none := r < 32 || r >= 127 && r < 160 || r >= 768 && r < 880 || r >= 55296 && r < 57344 || r >= 1114112
	switch {
	case wide:
		return 2
	case none:
		return 0
	}
	return 1
}

func cellsOf(s string) int64 {
	sum := int64(0)
	for _, r := range runesOf(s) {
		sum += widthOf(r)
	}
	return sum
}

// widthPieces are each what one Get takes, of each width and each length in bytes; wrong bytes among them.
var widthPieces = []string{
	"a", " ", "~", "\x00", "\x1f", "\x7f", "\xc2\x9f", "\xc2\xa0", "\xcd\xaf", "\xcd\xb0", "\xcc\x80", "\xcc\x81",
	"\xe1\x84\x80", "\xe1\x85\x9f", "\xe1\x85\xa0", "\xe3\x80\x80", "\xe4\xb8\x80", "\xed\x9f\xbf", "\xee\x80\x80",
	"\xf0\x9f\x8c\x80", "\xf0\x9f\xbf\xbf", "\xf0\xa0\x80\x80", "\xf4\x8f\xbf\xbf", "\xff", "\x80",
}

func TestWidthOfEdges(t *testing.T) {
	for r, want := range edgeWidths {
		if got := impl.Width(r); got != want {
			t.Errorf("%d: %d, not %d", r, got, want)
		}
	}
	for _, r := range noRunes {
		if got := impl.Width(r); got != 0 {
			t.Errorf("%d: %d", r, got)
		}
	}
}

func TestWidthOfEachNumber(t *testing.T) {
	for r := int64(-3000); r < 1200000; r++ {
		if got := impl.Width(r); got != widthOf(r) {
			t.Fatal(r, got)
		}
	}
	for bit := range 63 {
		for _, r := range []int64{1 << bit, 1<<bit - 1, 1<<bit + 32, -1 << bit, -1<<bit + 97} {
			if got := impl.Width(r); got != widthOf(r) {
				t.Error(r, got)
			}
		}
	}
}

func TestTextWidthOfOneRune(t *testing.T) {
	for r, want := range edgeWidths {
		if got := impl.TextWidth(impl.Put(r)); got != want {
			t.Errorf("%d: %d, not %d", r, got, want)
		}
	}
}

func TestTextWidthOfEachText(t *testing.T) {
	for s, want := range map[string]int64{
		"": 0, "a": 1, "abc": 3, "a\xe4\xb8\x80\xcc\x81b": 4, "\x00\x1f\x7f": 0, "e\xcc\x81": 1,
		"\xff": 1, "\xff\xfe": 2, "\xe4\xb8": 2, "\xe4\xb8a": 3, "\xed\xa0\x80": 3, "\xf4\x90\x80\x80": 4, "\xf0\x9f\x98": 3,
		"\xf0\x9f\x98\x80": 2, "\xe3\x80\x80\xed\x9f\xbf": 4, "\xcc": 1, "\x80\xcc\x81": 1,
	} {
		if got := impl.TextWidth(s); got != want {
			t.Errorf("%q: %d, not %d", s, got, want)
		}
	}
	eachText(4, func(s string) {
		if got := impl.TextWidth(s); got != cellsOf(s) {
			t.Fatalf("%q: %d, not %d", s, got, cellsOf(s))
		}
	})
}

func TestATextIsAsWideAsItsParts(t *testing.T) {
	for _, a := range widthPieces {
		for _, b := range widthPieces {
			for _, c := range widthPieces {
				s := a + b + c
				_, cut := impl.Get(s)
				head, rest := s[:cut], s[cut:]
				sum := impl.TextWidth(head) + impl.TextWidth(rest)
				if got := impl.TextWidth(s); got != sum || got != cellsOf(s) {
					t.Fatalf("%q: %d, its parts %d", s, got, sum)
				}
			}
		}
	}
	long := strings.Join(widthPieces, "")
	if got := impl.TextWidth(strings.Repeat(long, 100)); got != 100*cellsOf(long) {
		t.Error(got)
	}
}

// fittingOf is Fitting by trying every cut, the longest first.
func fittingOf(s string, cells int64) string {
	if cells < 0 || cells > 1000 {
		return ""
	}
	cuts := []int{0}
	for at := 0; at < len(s); {
		_, n := utf8.DecodeRuneInString(s[at:])
		at += n
		cuts = append(cuts, at)
	}
	for _, cut := range slices.Backward(cuts) {
		if cellsOf(s[:cut]) <= cells {
			return s[:cut]
		}
	}
	return ""
}

// checkFitting holds what fits against the promise, and against every cut.
func checkFitting(t *testing.T, s string, cells int64) {
	t.Helper()
	got := impl.Fitting(s, cells)
	if want := fittingOf(s, cells); got != want {
		t.Fatalf("%.60q in %d: %.60q, not %.60q", s, cells, got, want)
	}
	if cells < 0 || cells > 1000 {
		return
	}
	if !strings.HasPrefix(s, got) || impl.TextWidth(got) > cells {
		t.Fatalf("%.60q in %d: %.60q", s, cells, got)
	}
	_, n := impl.Get(s[len(got):])
	if n > 0 && impl.TextWidth(s[:len(got)+int(n)]) <= cells {
		t.Fatalf("%.60q in %d: one more than %.60q fits", s, cells, got)
	}
}

func TestFittingOfEachText(t *testing.T) {
	eachText(3, func(s string) {
		for cells := int64(-1); cells <= 4; cells++ {
			checkFitting(t, s, cells)
		}
	})
	for _, a := range widthPieces {
		for _, b := range widthPieces {
			for _, c := range widthPieces {
				for cells := int64(0); cells <= 7; cells++ {
					checkFitting(t, a+b+c, cells)
				}
			}
		}
	}
}

func TestFittingOfSome(t *testing.T) {
	for _, c := range []struct {
		s     string
		cells int64
		want  string
	}{
		{"", 0, ""},
		{"", 1000, ""},
		{"abc", 0, ""},
		{"abc", 2, "ab"},
		{"abc", 3, "abc"},
		{"abc", 4, "abc"},
		{"\xe4\xb8\x80", 0, ""},
		{"\xe4\xb8\x80", 1, ""},
		{"\xe4\xb8\x80", 2, "\xe4\xb8\x80"},
		{"a\xe4\xb8\x80b", 2, "a"},
		{"a\xe4\xb8\x80b", 3, "a\xe4\xb8\x80"},
		{"\xcc\x81\x00a", 0, "\xcc\x81\x00"},
		{"\x00\x1f\x7f", 0, "\x00\x1f\x7f"},
		{"e\xcc\x81\xcc\x80f", 1, "e\xcc\x81\xcc\x80"},
		{"e\xcc\x81\xcc\x80f", 2, "e\xcc\x81\xcc\x80f"},
		{"a\x1b\xe4\xb8\x80", 2, "a\x1b"},
		{"\xe4\xb8\x80\xcc\x81", 2, "\xe4\xb8\x80\xcc\x81"},
		{"\xe4\xb8", 1, "\xe4"},
		{"\xe4\xb8", 2, "\xe4\xb8"},
		{"\xe4\xb8a", 2, "\xe4\xb8"},
		{"\xff\xff\xff", 2, "\xff\xff"},
		{"a\xcc", 1, "a"},
		{"a\xcc\x81\xcc", 1, "a\xcc\x81"},
		{"\xf0\x9f\x98", 2, "\xf0\x9f"},
		{"\xf0\x9f\x98\x80", 1, ""},
	} {
		if got := impl.Fitting(c.s, c.cells); got != c.want {
			t.Errorf("%q in %d: %q, not %q", c.s, c.cells, got, c.want)
		}
		checkFitting(t, c.s, c.cells)
	}
}

func TestFittingAtTheLimitOfCells(t *testing.T) {
	narrow, wide := strings.Repeat("a", 1002), strings.Repeat("\xe4\xb8\x80", 502)
	for s, want := range map[string]int{
		narrow: 1000, narrow[:1000]: 1000, narrow[:999]: 999, narrow[:1001]: 1000,
		wide: 1500, "a" + wide: 1 + 3*499, wide[:1500] + "\xcc\x81a": 1502, narrow[:999] + wide: 999,
	} {
		got := impl.Fitting(s, 1000)
		if got != s[:want] {
			t.Errorf("%.20q: %d bytes, not %d", s, len(got), want)
		}
		if impl.Fitting(s, 1001) != "" || impl.Fitting(s, -1) != "" {
			t.Errorf("%.20q beyond the limits", s)
		}
		for _, cells := range []int64{0, 1, 998, 999, 1000, 1001, 1002} {
			checkFitting(t, s, cells)
		}
	}
}

func TestFittingOfCellsOutOfRange(t *testing.T) {
	for _, cells := range []int64{
		math.MinInt64, math.MinInt64 + 1, -1 << 32, -1000, -2, -1,
		1001, 1002, 2000, 1 << 31, 1 << 32, 1<<32 + 5, 1 << 62, math.MaxInt64,
	} {
		for _, s := range []string{"", "abc", "\xcc\x81", "\x00", "\xe4\xb8\x80", "\xff"} {
			if got := impl.Fitting(s, cells); got != "" {
				t.Errorf("%q in %d: %q", s, cells, got)
			}
		}
	}
}

// A function of this layer that panics, or doesn't end, on anything here fails by that.
func TestWidthsAnswerAtEveryArgument(t *testing.T) {
	long := strings.Repeat("\xf0\x9f\x98", 30000)
	if impl.TextWidth(long) != int64(len(long)) || impl.Fitting(long, 1000) != long[:1000] {
		t.Error("a long text of wrong bytes")
	}
	nothing := strings.Repeat("\xcc\x81\x00", 30000)
	if impl.TextWidth(nothing) != 0 || impl.Fitting(nothing, 0) != nothing || impl.Fitting(nothing+"a", 0) != nothing {
		t.Error("a long text without width")
	}
	for _, s := range wrongTexts {
		for cells := int64(-2); cells <= 8; cells++ {
			checkFitting(t, s, cells)
			checkFitting(t, "\xe4\xb8\x80"+s+"\xe4\xb8\x80", cells)
		}
	}
}

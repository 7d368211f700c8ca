package tests

import (
	"math"
	"slices"
	"strings"
	"testing"
	"unicode/utf8"

	"loop.example/g00215/impl"
)

// edgeRunes are the least and the greatest runes of each length in bytes, and what lies beside the gap.
var edgeRunes = map[int64]string{
	0:       "\x00",
	1:       "\x01",
	97:      "a",
	126:     "\x7e",
	127:     "\x7f",
	128:     "\xc2\x80",
	233:     "\xc3\xa9",
	2046:    "\xdf\xbe",
	2047:    "\xdf\xbf",
	2048:    "\xe0\xa0\x80",
	4095:    "\xe0\xbf\xbf",
	4096:    "\xe1\x80\x80",
	53248:   "\xed\x80\x80",
	55294:   "\xed\x9f\xbe",
	55295:   "\xed\x9f\xbf",
	57344:   "\xee\x80\x80",
	57345:   "\xee\x80\x81",
	65533:   "\xef\xbf\xbd",
	65534:   "\xef\xbf\xbe",
	65535:   "\xef\xbf\xbf",
	65536:   "\xf0\x90\x80\x80",
	128512:  "\xf0\x9f\x98\x80",
	262143:  "\xf0\xbf\xbf\xbf",
	262144:  "\xf1\x80\x80\x80",
	1048575: "\xf3\xbf\xbf\xbf",
	1048576: "\xf4\x80\x80\x80",
	1114110: "\xf4\x8f\xbf\xbe",
	1114111: "\xf4\x8f\xbf\xbf",
}

var noRunes = []int64{
	math.MinInt64, math.MinInt64 + 1, -1 << 32, -65533, -128, -97, -2, -1,
	55296, 55297, 56319, 56320, 57342, 57343,
	1114112, 1114113, 2097151, 2097152, 1 << 31, 1 << 32, 1<<32 + 97, 1 << 40, math.MaxInt64 - 1, math.MaxInt64,
}

// edgeBytes are those at which one kind of byte gives way to another.
var edgeBytes = []byte{
	0, 'a', 0x7f, 0x80, 0x8f, 0x90, 0x9f, 0xa0, 0xbf, 0xc0, 0xc1, 0xc2, 0xdf,
	0xe0, 0xe1, 0xec, 0xed, 0xee, 0xef, 0xf0, 0xf1, 0xf3, 0xf4, 0xf5, 0xff,
}

// wrongTexts are cut, too long for their rune, of the gap, above the greatest rune, or begin none.
var wrongTexts = []string{
	"\x80", "\xbf", "\xc0", "\xc1", "\xf5", "\xf8", "\xfe", "\xff",
	"\xc3", "\xe4", "\xe4\xb8", "\xf0", "\xf0\x9f", "\xf0\x9f\x98",
	"\xc3a", "\xe4a", "\xe4\xb8a", "\xf0a", "\xf0\x9fa", "\xf0\x9f\x98a",
	"\xc3\xc3", "\xe4\xe4", "\xe4\xb8\xe4", "\xf0\xf0", "\xf0\x9f\xf0", "\xf0\x9f\x98\xf0",
	"\xc0\x80", "\xc0\xaf", "\xc1\xbf", "\xe0\x80\x80", "\xe0\x81\xa1", "\xe0\x9f\xbf",
	"\xf0\x80\x80\x80", "\xf0\x80\x81\xa1", "\xf0\x8f\xbf\xbf", "\xf8\x88\x80\x80\x80", "\xfc\x84\x80\x80\x80\x80",
	"\xed\xa0\x80", "\xed\xaf\xbf", "\xed\xb0\x80", "\xed\xbf\xbf", "\xed\xa0\xbd\xed\xb8\x80",
	"\xf4\x90\x80\x80", "\xf4\xbf\xbf\xbf", "\xf5\x80\x80\x80", "\xf7\xbf\xbf\xbf",
}

// eachText gives every text of at most most edge bytes.
func eachText(most int, yield func(string)) {
	eachBehind("", most, yield)
}

func eachBehind(text string, more int, yield func(string)) {
	yield(text)
	if more == 0 {
		return
	}
	for _, b := range edgeBytes {
		eachBehind(text+string([]byte{b}), more-1, yield)
	}
}

// firstOf is Get by the library's own reading of bytes.
func firstOf(s string) (int64, int64) {
	r, n := utf8.DecodeRuneInString(s)
	if n == 0 {
		return 0, 0
	}
	return int64(r), int64(n)
}

func runesOf(s string) []int64 {
	list := []int64{}
	for s != "" {
		r, n := firstOf(s)
		list = append(list, r)
		s = s[n:]
	}
	return list
}

func TestEachTextGivesEachOnce(t *testing.T) {
	seen := map[string]int{}
	eachText(3, func(s string) { seen[s]++ })
	k := len(edgeBytes)
	if len(seen) != 1+k+k*k+k*k*k {
		t.Fatal(len(seen))
	}
	for s, n := range seen {
		if n != 1 {
			t.Fatalf("%q %d times", s, n)
		}
	}
}

func TestRuneOk(t *testing.T) {
	for r := range edgeRunes {
		if !impl.RuneOk(r) {
			t.Error(r)
		}
	}
	for _, r := range noRunes {
		if impl.RuneOk(r) {
			t.Error(r)
		}
	}
	for r := int64(-3000); r < 1200000; r++ {
		right := r >= 0 && r < 55296 || r > 57343 && r < 1114112
		if impl.RuneOk(r) != right {
			t.Fatal(r)
		}
	}
}

func TestPutOfEdges(t *testing.T) {
	for r, want := range edgeRunes {
		if got := impl.Put(r); got != want {
			t.Errorf("%d: %q, not %q", r, got, want)
		}
	}
	for _, r := range noRunes {
		if got := impl.Put(r); got != "" {
			t.Errorf("%d: %q", r, got)
		}
	}
}

func TestPutOfEachRuneIsGotBack(t *testing.T) {
	for r := int64(0); r <= 1114111; r++ {
		if r == 55296 {
			r = 57344
		}
		made := impl.Put(r)
		if made != string(utf8.AppendRune(nil, rune(r))) {
			t.Fatalf("%d: %q", r, made)
		}
		if got, n := impl.Get(made); got != r || n != int64(len(made)) {
			t.Fatal(r, got, n)
		}
		if got, n := impl.Get(made + "\xbf"); got != r || n != int64(len(made)) {
			t.Fatal(r, got, n)
		}
	}
}

func TestGetOfNothingAndOfWrongBytes(t *testing.T) {
	if r, n := impl.Get(""); r != 0 || n != 0 {
		t.Error(r, n)
	}
	for _, s := range wrongTexts {
		if r, n := impl.Get(s); r != 65533 || n != 1 {
			t.Errorf("%q: %d %d", s, r, n)
		}
	}
}

func TestGetOfARuneThatIsCut(t *testing.T) {
	for r, made := range edgeRunes {
		for cut := 1; cut < len(made); cut++ {
			for _, behind := range []string{"", "a", made} {
				if got, n := impl.Get(made[:cut] + behind); got != 65533 || n != 1 {
					t.Errorf("%d cut at %d, then %q: %d %d", r, cut, behind, got, n)
				}
			}
		}
	}
}

func TestGetReadsOnlyWhatPutMakes(t *testing.T) {
	runes := map[string]int64{}
	for r := int64(0); r <= 1114111; r++ {
		if made := impl.Put(r); made != "" {
			runes[made] = r
		}
	}
	eachText(4, func(s string) {
		want, long := int64(65533), int64(1)
		if s == "" {
			want, long = 0, 0
		}
		for n := 1; n <= len(s); n++ {
			if r, ok := runes[s[:n]]; ok {
				want, long = r, int64(n)
			}
		}
		if r, n := impl.Get(s); r != want || n != long {
			t.Fatalf("%q: %d %d, not %d %d", s, r, n, want, long)
		}
	})
}

func TestStarts(t *testing.T) {
	for b := range 256 {
		if impl.Starts(byte(b)) != (b < 0x80 || b > 0xbf) {
			t.Error(b)
		}
	}
}

func TestRunesAreGetAgainAndAgain(t *testing.T) {
	if list := impl.Runes(""); len(list) != 0 {
		t.Error(list)
	}
	eachText(4, func(s string) {
		var want []int64
		for rest := s; rest != ""; {
			r, n := impl.Get(rest)
			want = append(want, r)
			rest = rest[n:]
		}
		got := impl.Runes(s)
		if !slices.Equal(got, want) || !slices.Equal(got, runesOf(s)) {
			t.Fatalf("%q: %v, not %v", s, got, want)
		}
	})
}

func TestRunesOfWrongTexts(t *testing.T) {
	for s, want := range map[string][]int64{
		"a\xc3\xa9\xffb\xe4\xb8":           {97, 233, 65533, 98, 65533, 65533},
		"\xed\xa0\x80":                     {65533, 65533, 65533},
		"\xf4\x90\x80\x80":                 {65533, 65533, 65533, 65533},
		"\xc0\x80b":                        {65533, 65533, 98},
		"\xe4\xb8\xe4\xb8\xad":             {65533, 65533, 20013},
		"\xf0\x9f\x98\xf0\x9f\x98\x80":     {65533, 65533, 65533, 128512},
		"\xef\xbf\xbd\xef\xbf":             {65533, 65533, 65533},
		"\x00\x7f\xc2\x80\xf4\x8f\xbf\xbf": {0, 127, 128, 1114111},
	} {
		if got := impl.Runes(s); !slices.Equal(got, want) {
			t.Errorf("%q: %v, not %v", s, got, want)
		}
	}
}

func TestRunesOfTextAreTheRunes(t *testing.T) {
	if impl.Text(nil) != "" || impl.Text([]int64{}) != "" {
		t.Error("a text of no runes")
	}
	var all []int64
	for r := int64(0); r <= 1114111; r++ {
		if impl.RuneOk(r) {
			all = append(all, r)
		}
	}
	if !slices.Equal(impl.Runes(impl.Text(all)), all) {
		t.Error("all runes")
	}
	for a, first := range edgeRunes {
		for b, second := range edgeRunes {
			list := []int64{a, b, a}
			text := impl.Text(list)
			if text != first+second+first || !slices.Equal(impl.Runes(text), list) {
				t.Fatalf("%v: %q", list, text)
			}
		}
	}
}

func TestTextOfWhatIsNoRune(t *testing.T) {
	for _, r := range noRunes {
		text := impl.Text([]int64{97, r, 233})
		if text != "a\xef\xbf\xbd\xc3\xa9" || !slices.Equal(impl.Runes(text), []int64{97, 65533, 233}) {
			t.Errorf("%d: %q", r, text)
		}
	}
	if text := impl.Text(noRunes); text != strings.Repeat("\xef\xbf\xbd", len(noRunes)) {
		t.Errorf("%q", text)
	}
}

// beginnings are all texts that a Feeder may hold.
func beginnings() map[string]bool {
	held := map[string]bool{"": true}
	for r := rune(0); r <= 1114111; r++ {
		if !utf8.ValidRune(r) {
			continue
		}
		made := utf8.AppendRune(nil, r)
		for n := 1; n < len(made); n++ {
			held[string(made[:n])] = true
		}
	}
	return held
}

func TestFeederOk(t *testing.T) {
	held := beginnings()
	for h := range held {
		if !impl.FeederOk(impl.Feeder{Held: h}) {
			t.Fatalf("%q", h)
		}
	}
	for first := range 256 {
		checkFeeder(t, held, string([]byte{byte(first)}))
		for second := range 256 {
			two := string([]byte{byte(first), byte(second)})
			checkFeeder(t, held, two)
			for _, third := range edgeBytes {
				checkFeeder(t, held, two+string([]byte{third}))
			}
		}
	}
	eachText(4, func(s string) { checkFeeder(t, held, s) })
}

func checkFeeder(t *testing.T, held map[string]bool, s string) {
	if got := impl.FeederOk(impl.Feeder{Held: s}); got != held[s] {
		t.Fatalf("%q: %v", s, got)
	}
}

func TestFeederOkOfLongTexts(t *testing.T) {
	for _, h := range []string{
		"\xf0\x9f\x98\x80", "\xf0\x9f\x98\xf0", "\xf0\x90\x80\x80\x80", "\xe4\xb8\xe4", "aaaa",
		strings.Repeat("\xf0", 1000), strings.Repeat("\x80", 100000), "\xf1" + strings.Repeat("\x80", 5000),
	} {
		if impl.FeederOk(impl.Feeder{Held: h}) {
			t.Errorf("%.20q", h)
		}
	}
}

// fed feeds all of s and gives what was told on the way.
func fed(t *testing.T, f impl.Feeder, s string) (impl.Feeder, []int64) {
	told := []int64{}
	for i := range len(s) {
		next, more := impl.Feed(f, s[i])
		if !impl.FeederOk(next) {
			t.Fatalf("%q and %d: holds %q", f.Held, s[i], next.Held)
		}
		f, told = next, append(told, more...)
	}
	return f, told
}

// checkFed holds what is told of s, byte by byte, against the Runes of the whole.
func checkFed(t *testing.T, s string) {
	f, told := fed(t, impl.Feeder{}, s)
	if !strings.HasSuffix(s, f.Held) {
		t.Fatalf("%q: holds %q", s, f.Held)
	}
	if want := impl.Runes(s[:len(s)-len(f.Held)]); !slices.Equal(told, want) {
		t.Fatalf("%q: told %v, not %v", s, told, want)
	}
	if want := impl.Runes(s); !slices.Equal(append(told, impl.Runes(f.Held)...), want) {
		t.Fatalf("%q: told %v, held %q, not %v", s, told, f.Held, want)
	}
}

func TestFedOneByOneIsToldAsAllAtOnce(t *testing.T) {
	eachText(4, func(s string) { checkFed(t, s) })
	for _, a := range wrongTexts {
		for _, b := range wrongTexts {
			checkFed(t, a+b)
			checkFed(t, a+"\xe4\xb8\xad"+b+"\xf0\x9f\x98\x80")
		}
		for _, b := range edgeRunes {
			checkFed(t, a+b+a)
			checkFed(t, b+a+b)
		}
	}
}

func TestFedRightTextsHoldNothing(t *testing.T) {
	for a, first := range edgeRunes {
		for b, second := range edgeRunes {
			f, told := fed(t, impl.Feeder{}, first+second)
			if f != (impl.Feeder{}) || !slices.Equal(told, []int64{a, b}) {
				t.Fatalf("%q: %v, holds %q", first+second, told, f.Held)
			}
		}
	}
}

func TestFedLongTexts(t *testing.T) {
	seed := uint64(1)
	text := make([]byte, 20000)
	for i := range text {
		seed = seed*6364136223846793005 + 1442695040888963407
		text[i] = edgeBytes[int(seed>>40)%len(edgeBytes)]
		if seed>>62 == 3 {
			text[i] = byte(seed >> 33)
		}
	}
	checkFed(t, string(text))
}

func TestFeedTellsNoSoonerAndNoLater(t *testing.T) {
	for _, c := range []struct {
		held string
		b    byte
		left string
		told []int64
	}{
		{"", 'a', "", []int64{97}},
		{"", 0, "", []int64{0}},
		{"", 0x80, "", []int64{65533}},
		{"", 0xc1, "", []int64{65533}},
		{"", 0xc2, "\xc2", nil},
		{"", 0xf4, "\xf4", nil},
		{"", 0xf5, "", []int64{65533}},
		{"\xc3", 0xa9, "", []int64{233}},
		{"\xc3", 'a', "", []int64{65533, 97}},
		{"\xc3", 0xc3, "\xc3", []int64{65533}},
		{"\xe0", 0x9f, "", []int64{65533, 65533}},
		{"\xe0", 0xa0, "\xe0\xa0", nil},
		{"\xed", 0x9f, "\xed\x9f", nil},
		{"\xed", 0xa0, "", []int64{65533, 65533}},
		{"\xf0", 0x8f, "", []int64{65533, 65533}},
		{"\xf0", 0x90, "\xf0\x90", nil},
		{"\xf4", 0x8f, "\xf4\x8f", nil},
		{"\xf4", 0x90, "", []int64{65533, 65533}},
		{"\xe4\xb8", 0xad, "", []int64{20013}},
		{"\xe4\xb8", 0xe4, "\xe4", []int64{65533, 65533}},
		{"\xf0\x9f\x98", 0x80, "", []int64{128512}},
		{"\xf0\x9f\x98", 'a', "", []int64{65533, 65533, 65533, 97}},
		{"\xf0\x9f\x98", 0xf0, "\xf0", []int64{65533, 65533, 65533}},
	} {
		f, told := impl.Feed(impl.Feeder{Held: c.held}, c.b)
		if f.Held != c.left || !slices.Equal(told, c.told) {
			t.Errorf("%q and %d: %v, holds %q", c.held, c.b, told, f.Held)
		}
	}
}

func TestFeedToAWrongFeeder(t *testing.T) {
	wrong := append([]string{"a", "\x00", "\xc3\xa9", "\xe4\xb8\xad", "\xf0\x9f\x98\x80", "a\xc3", "\xc3\xc3"}, wrongTexts...)
	right := beginnings()
	for _, h := range wrong {
		if right[h] {
			continue
		}
		for b := range 256 {
			f, told := impl.Feed(impl.Feeder{Held: h}, byte(b))
			if f != (impl.Feeder{}) || len(told) != 0 {
				t.Fatalf("%q and %d: %v, holds %q", h, b, told, f.Held)
			}
		}
	}
}

func TestRunesArgumentsStayAndAnswersAreNew(t *testing.T) {
	room := []int64{97, -1, 233, 7, 8}
	list := room[:3]
	if impl.Text(list) != "a\xef\xbf\xbd\xc3\xa9" || !slices.Equal(room, []int64{97, -1, 233, 7, 8}) {
		t.Error(room)
	}
	one, two := impl.Runes("abc"), impl.Runes("abc")
	clear(one[:cap(one)])
	if !slices.Equal(two, []int64{97, 98, 99}) || !slices.Equal(impl.Runes("abc"), two) {
		t.Error(two)
	}
	_, one = impl.Feed(impl.Feeder{Held: "\xc3"}, 'a')
	_, two = impl.Feed(impl.Feeder{Held: "\xc3"}, 'a')
	clear(one[:cap(one)])
	if !slices.Equal(two, []int64{65533, 97}) {
		t.Error(two)
	}
}

// A function of this layer that panics, or doesn't end, on anything here fails by that.
func TestRunesAnswerAtEveryArgument(t *testing.T) {
	long := strings.Repeat("\xf0\x9f\x98", 30000)
	if list := impl.Runes(long); len(list) != len(long) {
		t.Error(len(list))
	}
	if r, n := impl.Get(long); r != 65533 || n != 1 {
		t.Error(r, n)
	}
	f, told := impl.Feed(impl.Feeder{Held: long}, 255)
	if f.Held != "" || len(told) != 0 {
		t.Error(len(f.Held), len(told))
	}
	many := slices.Repeat(noRunes, 2000)
	if text := impl.Text(many); len(text) != 3*len(many) {
		t.Error(len(text))
	}
}

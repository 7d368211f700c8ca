package impl

import "strings"

// strange is told for a byte that begins no rune.
const strange = 65533

type Feeder struct {
	Held string
}

func RuneOk(r int64) bool {
	return 0 <= r && r <= 1114111 && (r < 55296 || r > 57343)
}

// A form is how the runes up to most are written: in how many bytes, and what the first of them is beside the highest bits.
type form struct {
	most  int64
	bytes int64
	lead  int64
}

func formOf(r int64) form {
	forms := [4]form{{127, 1, 0}, {2047, 2, 128 + 64}, {65535, 3, 128 + 64 + 32}, {1114111, 4, 128 + 64 + 32 + 16}}
	at := 0
	for r > forms[at].most && at < len(forms)-1 {
		at++
	}
	return forms[at]
}

func Put(r int64) string {
	if !RuneOk(r) {
		return ""
	}
	f := formOf(r)
	made := make([]byte, f.bytes)
	for at := f.bytes - 1; at > 0; at-- {
		made[at] = byte(128 + r%64)
		r /= 64
	}
	made[0] = byte(f.lead + r)
	return string(made)
}

func Get(s string) (int64, int64) {
	for _, letter := range s {
		// The range tells 65533 of a wrong byte too: only what is put so stands there.
		r := int64(letter)
		if made := Put(r); strings.HasPrefix(s, made) {
			return r, int64(len(made))
		}
		return strange, 1
	}
	return 0, 0
}

func Starts(b byte) bool {
	return b < 128 || b >= 192
}

func Runes(s string) []int64 {
	list := []int64{}
	for _, letter := range s {
		list = append(list, int64(letter))
	}
	return list
}

func Text(list []int64) string {
	text := []byte{}
	for _, r := range list {
		if !RuneOk(r) {
			r = strange
		}
		text = append(text, Put(r)...)
	}
	return string(text)
}

func FeederOk(f Feeder) bool {
	return f.Held == "" || len(f.Held) <= 3 && cutShort(f.Held)
}

// cutShort tells whether some rune is written as held and more.
func cutShort(held string) bool {
	// The bytes that may stand behind a first byte are one run with 128 or 191 in it, so where any tail fits, one of these does.
	tails := [6]string{"\x80", "\xbf", "\x80\x80", "\xbf\xbf", "\x80\x80\x80", "\xbf\xbf\xbf"}
	for _, tail := range tails {
		whole := held + tail
		if _, n := Get(whole); n == int64(len(whole)) {
			return true
		}
	}
	return false
}

func Feed(f Feeder, b byte) (Feeder, []int64) {
	told := []int64{}
	if !FeederOk(f) {
		return Feeder{}, told
	}
	held := f.Held + string([]byte{b})
	for held != "" && !FeederOk(Feeder{held}) {
		r, n := Get(held)
		told = append(told, r)
		held = held[n:]
	}
	return Feeder{held}, told
}

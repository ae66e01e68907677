package tests

import (
	"strings"
	"testing"

	"loop.example/wapentake/impl"
)

func TestP31Examples(t *testing.T) {
	want := map[string]int{
		"123456789":        3421780262,
		"":                 0,
		"\x00":             3523407757,
		"\xff":             4278190080,
		"a":                3904355907,
		"0|1|none":         1727475806,
		"0|1|1 1 join 0 0": 1181076027,
	}
	for s, sum := range want {
		if got := impl.Crc(s); got != sum {
			t.Errorf("Crc(%q) is %d, want %d", s, got, sum)
		}
	}
}

// byteTexts is texts with every byte, and texts that are no UTF-8.
func byteTexts() []string {
	var list []string
	all := ""
	for b := range 256 {
		s := string([]byte{byte(b)})
		list = append(list, s, s+s, "x"+s, s+"x", strings.Repeat(s, 4), strings.Repeat(s, 5))
		all += s
	}
	return append(list, "", all, all+all, "\xff\xfe\xfd", "\xc3", "\xc3(", "\xed\xa0\x80", "\xf0\x9f\x8e", "gr\xfc\xdfe", "grüße", "日本", "\x00\x00\x00\x00", strings.Repeat(all, 400))
}

func TestP31EveryByte(t *testing.T) {
	for _, s := range byteTexts() {
		got := impl.Crc(s)
		if got != sumOf(s) {
			t.Fatalf("Crc(%q) is %d, want %d", s, got, sumOf(s))
		}
		if got < 0 || got > 4294967295 {
			t.Fatalf("Crc(%q) is %d", s, got)
		}
	}
}

func TestP31AnyText(t *testing.T) {
	c := &chance{state: 31}
	for n := range 300 {
		text := make([]byte, n)
		for i := range text {
			text[i] = byte(c.below(256))
		}
		if s := string(text); impl.Crc(s) != sumOf(s) {
			t.Fatalf("Crc(%q) is %d, want %d", s, impl.Crc(s), sumOf(s))
		}
	}
}

func TestP31OneBit(t *testing.T) {
	for _, s := range []string{"\x00", "\xff", "123456789", "4294967295|60|4 30 give 4 9", "\xc3(\x00\x00", strings.Repeat("\x00", 50)} {
		sum := impl.Crc(s)
		for i := range len(s) {
			for bit := range 8 {
				flipped := []byte(s)
				flipped[i] ^= 1 << bit
				if impl.Crc(string(flipped)) == sum {
					t.Errorf("Crc(%q) is that of %q", flipped, s)
				}
			}
		}
	}
}

package tests

import (
	"slices"
	"strings"
	"testing"

	"loop.example/wapentake/impl"
)

func TestLimitsOfPieces(t *testing.T) {
	if impl.PieceSize != 12 || impl.PiecesMax != 16 {
		t.Errorf("the constants are %d and %d", impl.PieceSize, impl.PiecesMax)
	}
}

func TestP51Examples(t *testing.T) {
	for s, want := range map[string][]string{
		"": {""}, "x": {"x"}, "0123456789a": {"0123456789a"}, "0123456789ab": {"0123456789ab"}, "0123456789abc": {"0123456789ab", "c"},
		"0123456789ab0123456789ab": {"0123456789ab", "0123456789ab"}, "0123456789ab0123456789abxyz": {"0123456789ab", "0123456789ab", "xyz"},
	} {
		if got := pieceOf(t, s); !slices.Equal(got, want) {
			t.Errorf("PieceOf(%q) is %q, want %q", s, got, want)
		}
		if got, ok := pieceJoin(t, want); !ok || got != s {
			t.Errorf("PieceJoin(%q) is %q %v, want %q", want, got, ok, s)
		}
	}
}

func TestP51EachSize(t *testing.T) {
	for n := range pieceSize*piecesMax + 1 {
		s := textOfSize(n)
		list := pieceOf(t, s)
		if len(list) == 0 || len(list) > 1 && (len(list)-1)*pieceSize >= n || len(list)*pieceSize < n {
			t.Errorf("%d bytes make %d chunks", n, len(list))
		}
	}
}

func TestP51TooLong(t *testing.T) {
	for _, more := range []int{1, 2, pieceSize, pieceSize + 1, 1000, 100000} {
		if list := pieceOf(t, textOfSize(pieceSize*piecesMax+more)); list != nil {
			t.Errorf("%d bytes too many: %q", more, list)
		}
	}
}

// TestP51AnyBytes has texts that are no UTF-8, and newlines and letters of several bytes where they are cut.
func TestP51AnyBytes(t *testing.T) {
	list := append(byteTexts(), strings.Repeat("\n", 50), strings.Repeat("日本", 20), strings.Repeat("\xff\n", 96), strings.Repeat("\x00", pieceSize*piecesMax), "12345678901日", "1234567890\r\n\r\n")
	split, long := 0, 0
	for _, s := range list {
		if pieceOf(t, s) == nil {
			long++
		} else {
			split++
		}
	}
	if split < 1000 || long < 3 {
		t.Errorf("%d texts are split, and %d are too long", split, long)
	}
	c := &chance{state: 51}
	for n := range pieceSize*piecesMax + 20 {
		text := make([]byte, n)
		for i := range text {
			text[i] = byte(c.below(256))
		}
		pieceOf(t, string(text))
	}
}

func TestP52BadLists(t *testing.T) {
	for name, list := range badLists() {
		if s, ok := pieceJoin(t, list); ok || s != "" {
			t.Errorf("%s: PieceJoin is %q %v", name, s, ok)
		}
		if root := pieceRoot(t, list); root != -1 {
			t.Errorf("%s: PieceRoot is %d", name, root)
		}
		for _, at := range []int{-1, 0, 1, len(list) - 1, len(list)} {
			if proof := pieceProof(t, list, at); proof != nil {
				t.Errorf("%s: PieceProof at %d is %v", name, at, proof)
			}
		}
	}
}

func TestP52WellFormed(t *testing.T) {
	full := textOfSize(pieceSize)
	for many := range piecesMax {
		for size := range pieceSize + 1 {
			list := append(slices.Repeat([]string{full}, many), strings.Repeat("y", size))
			if s, ok := pieceJoin(t, list); ok != (size > 0 || many == 0) || ok && len(s) != many*pieceSize+size {
				t.Errorf("%d chunks and one of %d are joined to %q %v", many, size, s, ok)
			}
		}
	}
}

// TestP52AnyList has lists of chunks of any size, most of which are full.
func TestP52AnyList(t *testing.T) {
	c := &chance{state: 52}
	joined := 0
	for range 5000 {
		var list []string
		for range c.below(piecesMax + 3) {
			size := pieceSize
			if c.below(8) == 0 {
				size = c.below(pieceSize + 2)
			}
			list = append(list, strings.Repeat("\n", size))
		}
		pieceRoot(t, list)
		if _, ok := pieceJoin(t, list); ok {
			joined++
		}
	}
	if joined < 500 || joined > 4500 {
		t.Errorf("%d lists are well-formed", joined)
	}
}

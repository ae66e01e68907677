package tests

import (
	"slices"
	"strconv"
	"strings"
	"testing"

	"loop.example/wapentake/impl"
)

// The limits of chunks as the document gives them.
const (
	pieceSize = 12
	piecesMax = 16
)

// pieceOf is PieceOf, held against the model and promise 51; so are the next ones with the functions of their names.
func pieceOf(t *testing.T, s string) []string {
	t.Helper()
	got := impl.PieceOf(s)
	if want := modelPieces(s); !slices.Equal(got, want) {
		t.Fatalf("PieceOf(%q)\nis   %q\nwant %q", s, got, want)
	}
	if got == nil {
		return nil
	}
	kept := slices.Clone(got)
	overwrite(got, "written over")
	if again := impl.PieceOf(s); !slices.Equal(again, kept) {
		t.Fatalf("PieceOf(%q) is %q, and then %q", s, kept, again)
	}
	if back, ok := pieceJoin(t, kept); !ok || back != s || strings.Join(kept, "") != s {
		t.Fatalf("%q is joined to %q %v", s, back, ok)
	}
	return kept
}

func pieceJoin(t *testing.T, list []string) (string, bool) {
	t.Helper()
	got, ok, want := "", false, ""
	wantOk := modelWellFormed(list)
	if wantOk {
		want = strings.Join(list, "")
	}
	untouched(t, roomy(list, "spare"), func(list []string) { got, ok = impl.PieceJoin(list) })
	if ok != wantOk || got != want {
		t.Fatalf("PieceJoin %q\nis   %q %v\nwant %q %v", list, got, ok, want, wantOk)
	}
	// Promise 52.
	if again := impl.PieceOf(got); ok && !slices.Equal(again, list) {
		t.Fatalf("%q is joined and split to %q", list, again)
	}
	return got, ok
}

func pieceRoot(t *testing.T, list []string) int {
	t.Helper()
	got, want := 0, -1
	if modelWellFormed(list) {
		want = modelRoot(list)
	}
	untouched(t, roomy(list, "spare"), func(list []string) { got = impl.PieceRoot(list) })
	if got != want {
		t.Fatalf("PieceRoot is %d, want %d, of %q", got, want, list)
	}
	return got
}

func pieceProof(t *testing.T, list []string, at int) []int {
	t.Helper()
	var got, want []int
	if modelWellFormed(list) && at >= 0 && at < len(list) {
		want = modelProof(list, at)
	}
	untouched(t, roomy(list, "spare"), func(list []string) {
		result := impl.PieceProof(list, at)
		got = slices.Clone(result)
		overwrite(result, -9)
		if again := impl.PieceProof(list, at); !slices.Equal(again, got) {
			t.Fatalf("PieceProof is %v, and then %v, at %d of %q", got, again, at, list)
		}
	})
	if !slices.Equal(got, want) {
		t.Fatalf("PieceProof is %v, want %v, at %d of %q", got, want, at, list)
	}
	return got
}

func pieceCheck(t *testing.T, root, many, at int, s string, proof []int) bool {
	t.Helper()
	got := false
	untouched(t, roomy(proof, -7), func(proof []int) { got = impl.PieceCheck(root, many, at, s, proof) })
	if want := modelCheck(root, many, at, s, proof); got != want {
		t.Fatalf("PieceCheck is %v at %d of %d for %q with %v and the root %d", got, at, many, s, proof, root)
	}
	return got
}

func roomyPieces(list []impl.Piece) []impl.Piece {
	out := roomy(list, impl.Piece{At: -7})
	for i := range out {
		out[i].Proof = roomy(out[i].Proof, -7)
	}
	return out
}

func samePiece(a, b impl.Piece) bool {
	return a.At == b.At && a.Text == b.Text && slices.Equal(a.Proof[:cap(a.Proof)], b.Proof[:cap(b.Proof)])
}

func pieceTake(t *testing.T, root, many int, list []impl.Piece) (string, bool) {
	t.Helper()
	arg, before := roomyPieces(list), roomyPieces(list)
	got, ok := impl.PieceTake(root, many, arg)
	if want, wantOk := modelTake(root, many, list); ok != wantOk || got != want {
		t.Fatalf("PieceTake of %d, %v\nis   %q %v\nwant %q %v", many, list, got, ok, want, wantOk)
	}
	if !slices.EqualFunc(arg[:cap(arg)], before[:cap(before)], samePiece) {
		t.Fatalf("PieceTake changes its argument: %v, before %v", arg, before)
	}
	if ok {
		checkP56(t, got, root, list)
	}
	return got, ok
}

func checkP56(t *testing.T, got string, root int, list []impl.Piece) {
	t.Helper()
	var texts []string
	for _, p := range list {
		texts = append(texts, p.Text)
		if !impl.PieceCheck(root, len(list), p.At, p.Text, p.Proof) {
			t.Fatalf("PieceTake takes %v", p)
		}
	}
	if again := impl.PieceOf(got); !slices.Equal(again, texts) {
		t.Fatalf("PieceTake of %q is %q, which is split to %q", texts, got, again)
	}
}

// textOfSize is a text of that many bytes, in which no two chunks are the same.
func textOfSize(n int) string {
	var b strings.Builder
	for i := range n {
		b.WriteByte("abcdefghijklmnopqrstuvwxyz0123456789"[(i*i/pieceSize+i)%36])
	}
	return b.String()
}

// splitTexts is, for each number of chunks, texts whose last chunk is as short and as long as it can be.
func splitTexts() []string {
	list := []string{""}
	for many := 1; many <= piecesMax; many++ {
		list = append(list, textOfSize(many*pieceSize-pieceSize+1), textOfSize(many*pieceSize))
	}
	return list
}

// badLists is lists that are not well-formed.
func badLists() map[string][]string {
	full := textOfSize(pieceSize)
	list := map[string][]string{
		"none": {}, "nil": nil, "two empty ones": {"", ""}, "an empty one at first": {"", full}, "an empty one at first and a short one": {"", "x"},
		"a long one": {full + "x"}, "a long one at first": {full + "x", full}, "a long one at last": {full, full + "x"}, "a very long one": {textOfSize(pieceSize * piecesMax)},
		"two short ones": {"short", "x"}, "17": slices.Repeat([]string{full}, piecesMax+1), "17 with a short one at last": append(slices.Repeat([]string{full}, piecesMax), "x"),
		"17 with an empty one at last": append(slices.Repeat([]string{full}, piecesMax), ""), "1000": slices.Repeat([]string{full}, 1000), "1000 empty ones": make([]string, 1000),
		"1000 very long ones": slices.Repeat([]string{strings.Repeat(full, 1000)}, 1000),
	}
	for many := 2; many <= piecesMax; many++ {
		whole := slices.Repeat([]string{full}, many)
		for at := range many {
			for name, s := range map[string]string{", empty at ": "", ", 1 byte at ": "x", ", 11 bytes at ": full[1:], ", 13 bytes at ": full + "x"} {
				bent := slices.Clone(whole)
				bent[at] = s
				if at < many-1 || s == "" || len(s) > pieceSize {
					list[strconv.Itoa(many)+name+strconv.Itoa(at)] = bent
				}
			}
		}
	}
	return list
}

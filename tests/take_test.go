package tests

import (
	"math"
	"slices"
	"strings"
	"testing"

	"loop.example/wapentake/impl"
)

// provedPieces is a list with its root and proofs, which the model makes also for a list that is not well-formed.
func provedPieces(list []string) (int, []impl.Piece) {
	var pieces []impl.Piece
	for at, s := range list {
		pieces = append(pieces, impl.Piece{At: at, Text: s, Proof: modelProof(list, at)})
	}
	return modelRoot(list), pieces
}

func TestP56EachText(t *testing.T) {
	var texts []string
	for n := range pieceSize*piecesMax + 1 {
		texts = append(texts, textOfSize(n))
	}
	for _, s := range append(texts, byteTexts()...) {
		list := impl.PieceOf(s)
		if list == nil {
			continue
		}
		var pieces []impl.Piece
		for at := range list {
			pieces = append(pieces, impl.Piece{At: at, Text: list[at], Proof: impl.PieceProof(list, at)})
		}
		if got, ok := pieceTake(t, impl.PieceRoot(list), len(list), pieces); !ok || got != s {
			t.Fatalf("PieceTake is %q %v, want %q", got, ok, s)
		}
	}
}

// TestP56State transfers a state as its text, which is all that it is made for.
func TestP56State(t *testing.T) {
	for _, g := range someGames()[:100] {
		s := impl.GamePut(g)
		root, pieces := provedPieces(modelPieces(s))
		got, ok := pieceTake(t, root, len(pieces), pieces)
		back, read := impl.GameGet(got)
		if !ok || !read || !sameGame(back, g) {
			t.Fatalf("%v is transferred as %q %v", g, got, ok)
		}
	}
}

func mustNotTake(t *testing.T, name string, root, many int, list []impl.Piece) {
	t.Helper()
	if s, ok := pieceTake(t, root, many, list); ok || s != "" {
		t.Errorf("%s: PieceTake of %d pieces is %q %v", name, many, s, ok)
	}
}

// eachTransfer calls look with the pieces of each number of chunks.
func eachTransfer(look func(root int, pieces []impl.Piece)) {
	eachTree(func(list []string, _ int) { look(provedPieces(list)) })
}

func TestP56OtherOrder(t *testing.T) {
	eachTransfer(func(root int, pieces []impl.Piece) {
		for a := range pieces {
			for b := range a {
				swapped := slices.Clone(pieces)
				swapped[a], swapped[b] = swapped[b], swapped[a]
				mustNotTake(t, "in another order", root, len(pieces), swapped)
				swapped[a].At, swapped[b].At = a, b
				mustNotTake(t, "in another order, with the places of it", root, len(pieces), swapped)
			}
		}
	})
}

func TestP56MissingAndTwice(t *testing.T) {
	eachTransfer(func(root int, pieces []impl.Piece) {
		many := len(pieces)
		for at, p := range pieces {
			less := slices.Delete(slices.Clone(pieces), at, at+1)
			more := slices.Insert(slices.Clone(pieces), at, p)
			mustNotTake(t, "one missing", root, many, less)
			mustNotTake(t, "one missing, and one less asked for", root, many-1, less)
			mustNotTake(t, "one twice", root, many, more)
			mustNotTake(t, "one twice, and one more asked for", root, many+1, more)
			instead := slices.Clone(pieces)
			instead[(at+1)%many] = p
			if many > 1 {
				mustNotTake(t, "one twice and one missing", root, many, instead)
			}
		}
		mustNotTake(t, "none", root, many, nil)
		mustNotTake(t, "a zero one more", root, many, append(slices.Clone(pieces), impl.Piece{}))
	})
}

func TestP56OtherRoot(t *testing.T) {
	eachTransfer(func(root int, pieces []impl.Piece) {
		for _, other := range sumsOff(root) {
			mustNotTake(t, "another root", other, len(pieces), pieces)
		}
	})
}

func TestP56OtherMany(t *testing.T) {
	eachTransfer(func(root int, pieces []impl.Piece) {
		for _, many := range []int{-1, 0, 1, 2, 3, 4, 8, 9, 15, 16, 17, 32, math.MinInt, math.MaxInt} {
			if many != len(pieces) {
				mustNotTake(t, "another number", root, many, pieces)
			}
		}
	})
	mustNotTake(t, "none of 0", 0, 0, nil)
	mustNotTake(t, "none of 0, with the root -1", -1, 0, nil)
	for many := piecesMax + 1; many <= 40; many++ {
		root, pieces := provedPieces(slices.Repeat([]string{"0123456789ab"}, many))
		mustNotTake(t, "too many", root, many, pieces)
	}
}

func TestP56PieceChanged(t *testing.T) {
	eachTransfer(func(root int, pieces []impl.Piece) {
		for at, p := range pieces {
			others := []impl.Piece{{}, {At: at}, {At: p.At + 1, Text: p.Text, Proof: p.Proof}, {At: p.At - 1, Text: p.Text, Proof: p.Proof}, {At: -1, Text: p.Text, Proof: p.Proof}}
			others = append(others, impl.Piece{At: at, Text: p.Text + "x", Proof: p.Proof}, impl.Piece{At: at, Text: "x" + p.Text, Proof: p.Proof}, impl.Piece{At: at, Proof: p.Proof})
			others = append(others, impl.Piece{At: at, Text: p.Text, Proof: append(slices.Clone(p.Proof), 0)}, impl.Piece{At: at, Text: strings.ToUpper(p.Text), Proof: p.Proof})
			if len(p.Proof) > 0 {
				others = append(others, impl.Piece{At: at, Text: p.Text}, impl.Piece{At: at, Text: p.Text, Proof: p.Proof[1:]}, impl.Piece{At: at, Text: p.Text, Proof: p.Proof[:len(p.Proof)-1]})
			}
			for _, other := range others {
				bent := slices.Clone(pieces)
				if bent[at] = other; !samePiece(roomyPieces(bent)[at], roomyPieces(pieces)[at]) {
					mustNotTake(t, "a piece changed", root, len(pieces), bent)
				}
			}
		}
	})
}

// TestP56NotWellFormed has pieces that are each proved, in lists that are no text's.
func TestP56NotWellFormed(t *testing.T) {
	proved := 0
	for name, list := range badLists() {
		if len(list) == 0 || len(list) > piecesMax {
			continue
		}
		root, pieces := provedPieces(list)
		all := true
		for _, p := range pieces {
			all = pieceCheck(t, root, len(pieces), p.At, p.Text, p.Proof) && all
		}
		if all {
			proved++
		}
		mustNotTake(t, name, root, len(pieces), pieces)
	}
	if proved < 200 {
		t.Errorf("only %d lists are proved", proved)
	}
}

func TestP56SingleChunk(t *testing.T) {
	for size := range pieceSize + 1 {
		root, pieces := provedPieces([]string{textOfSize(size)})
		if s, ok := pieceTake(t, root, 1, pieces); !ok || s != textOfSize(size) {
			t.Errorf("PieceTake is %q %v", s, ok)
		}
		pieces[0].Proof = []int{}
		if _, ok := pieceTake(t, root, 1, pieces); !ok {
			t.Error("an empty proof and none are the same")
		}
	}
}

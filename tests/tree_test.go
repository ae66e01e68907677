package tests

import (
	"math"
	"slices"
	"strings"
	"testing"

	"loop.example/wapentake/impl"
)

const threeChunks = "0123456789ab0123456789abxyz"

func TestP53Examples(t *testing.T) {
	for s, want := range map[string]int{"": 4013539839, "x": 2704392399, threeChunks: 333574615} {
		if root := pieceRoot(t, modelPieces(s)); root != want {
			t.Errorf("PieceRoot of %q is %d, want %d", s, root, want)
		}
	}
	for at, want := range [][]int{{3162197337, 2721231618}, {561294383, 2721231618}, {2829915540}} {
		if proof := pieceProof(t, modelPieces(threeChunks), at); !slices.Equal(proof, want) {
			t.Errorf("PieceProof at %d is %v, want %v", at, proof, want)
		}
	}
}

// siblings is, for each number of chunks, how long the proof of the last one is: on a level of an odd number it has no sibling.
var siblings = []int{0, 1, 1, 2, 1, 2, 2, 3, 1, 2, 2, 3, 2, 3, 3, 4}

// eachTree calls look with the chunks of each number and their root.
func eachTree(look func(list []string, root int)) {
	for _, s := range splitTexts() {
		list := modelPieces(s)
		look(list, modelRoot(list))
	}
}

func TestP53EachTree(t *testing.T) {
	eachTree(func(list []string, root int) {
		many := len(list)
		if got := pieceRoot(t, list); got != root || got < 0 || got > sumMax {
			t.Fatalf("PieceRoot is %d, want %d", got, root)
		}
		for at, s := range list {
			proof := pieceProof(t, list, at)
			if !pieceCheck(t, root, many, at, s, proof) {
				t.Fatalf("PieceCheck fails at %d of %d with %v", at, many, proof)
			}
			if at == many-1 && len(proof) != siblings[many-1] {
				t.Errorf("the proof of the last of %d chunks is %v", many, proof)
			}
			if many == 1 && len(proof) > 0 {
				t.Errorf("the proof of a single chunk is %v", proof)
			}
		}
	})
}

func TestP53ElementMore(t *testing.T) {
	eachTree(func(list []string, root int) {
		for at, s := range list {
			proof := modelProof(list, at)
			for _, more := range []int{0, 1, -1, root, modelLeaf(at, s), sumMax, math.MinInt} {
				for place := range len(proof) + 1 {
					if pieceCheck(t, root, len(list), at, s, slices.Insert(slices.Clone(proof), place, more)) {
						t.Errorf("PieceCheck with %d put into %v at %d of %d", more, proof, at, len(list))
					}
				}
			}
			if len(proof) > 0 && pieceCheck(t, root, len(list), at, s, append(slices.Clone(proof), proof[len(proof)-1])) {
				t.Errorf("PieceCheck with the last of %v twice at %d of %d", proof, at, len(list))
			}
		}
	})
}

func TestP53NoSuchChunk(t *testing.T) {
	eachTree(func(list []string, root int) {
		for _, at := range []int{-1, -2, len(list), len(list) + 1, piecesMax, math.MinInt, math.MaxInt} {
			if at == piecesMax && len(list) > at {
				continue
			}
			if proof := pieceProof(t, list, at); proof != nil {
				t.Errorf("PieceProof at %d of %d is %v", at, len(list), proof)
			}
			if pieceCheck(t, root, len(list), at, list[0], modelProof(list, 0)) {
				t.Errorf("PieceCheck at %d of %d", at, len(list))
			}
		}
	})
}

func TestP54Siblings(t *testing.T) {
	eachTree(func(list []string, _ int) {
		if len(list) < 2 {
			return
		}
		first, second := pieceProof(t, list, 0), pieceProof(t, list, 1)
		if len(first) == 0 || len(first) != len(second) || !slices.Equal(first[1:], second[1:]) {
			t.Errorf("the proofs of the first two of %d are %v and %v", len(list), first, second)
		}
		if alone := pieceRoot(t, list[:1]); second[0] != alone {
			t.Errorf("the proof of the second of %d is %v, and the root of the first alone is %d", len(list), second, alone)
		}
	})
}

// TestP54OneBit flips each bit of each chunk.
func TestP54OneBit(t *testing.T) {
	for _, s := range []string{"x", "\x00", "0123456789ab", textOfSize(2*pieceSize + 1), textOfSize(7*pieceSize - 3)} {
		list := pieceOf(t, s)
		root := pieceRoot(t, list)
		for i := range len(s) {
			for bit := range 8 {
				flipped := []byte(s)
				flipped[i] ^= 1 << bit
				other, at := pieceOf(t, string(flipped)), i/pieceSize
				if pieceRoot(t, other) == root {
					t.Fatalf("the root of %q is that of %q", flipped, s)
				}
				if pieceCheck(t, root, len(list), at, other[at], pieceProof(t, list, at)) {
					t.Fatalf("PieceCheck of %q for %q", other[at], list[at])
				}
			}
		}
	}
}

// TestP54ChunksElsewhere has the same chunks in another order, and another number of them.
func TestP54ChunksElsewhere(t *testing.T) {
	full := strings.Repeat("a", pieceSize)
	roots := map[int]int{}
	for many := 1; many <= piecesMax; many++ {
		list := slices.Repeat([]string{full}, many)
		root := pieceRoot(t, list)
		if other, ok := roots[root]; ok {
			t.Errorf("%d chunks and %d have the same root", many, other)
		}
		roots[root] = many
		// The chunks are the same; only their places tell the proofs apart.
		for at := range many {
			for other := range many {
				if pieceCheck(t, root, many, at, full, pieceProof(t, list, other)) != (at == other) {
					t.Errorf("of %d, the proof of %d at %d", many, other, at)
				}
			}
		}
	}
}

func TestP55ElementLess(t *testing.T) {
	eachTree(func(list []string, root int) {
		for at, s := range list {
			proof := modelProof(list, at)
			for i := range proof {
				if pieceCheck(t, root, len(list), at, s, slices.Delete(slices.Clone(proof), i, i+1)) || pieceCheck(t, root, len(list), at, s, proof[:i]) {
					t.Errorf("PieceCheck without element %d of %v at %d of %d", i, proof, at, len(list))
				}
			}
		}
	})
}

func TestP55ElementChanged(t *testing.T) {
	eachTree(func(list []string, root int) {
		for at, s := range list {
			proof := modelProof(list, at)
			for i, sum := range proof {
				for _, other := range sumsOff(sum) {
					bent := slices.Clone(proof)
					if bent[i] = other; pieceCheck(t, root, len(list), at, s, bent) {
						t.Errorf("PieceCheck with %v for %v at %d of %d", bent, proof, at, len(list))
					}
				}
				if i > 0 {
					bent := slices.Clone(proof)
					if bent[i-1], bent[i] = bent[i], bent[i-1]; pieceCheck(t, root, len(list), at, s, bent) {
						t.Errorf("PieceCheck with %v for %v at %d of %d", bent, proof, at, len(list))
					}
				}
			}
		}
	})
}

func TestP55OtherRoot(t *testing.T) {
	eachTree(func(list []string, root int) {
		for at, s := range list {
			for _, other := range sumsOff(root) {
				if pieceCheck(t, other, len(list), at, s, modelProof(list, at)) {
					t.Errorf("PieceCheck with the root %d for %d at %d of %d", other, root, at, len(list))
				}
			}
		}
	})
}

// TestP55OtherPlace has each chunk with its proof at each other place, and in a tree of another number. The model tells where the path is the same.
func TestP55OtherPlace(t *testing.T) {
	same := 0
	eachTree(func(list []string, root int) {
		for at, s := range list {
			proof := modelProof(list, at)
			for other := -2; other <= piecesMax+1; other++ {
				if other != at && pieceCheck(t, root, len(list), other, s, proof) {
					t.Errorf("PieceCheck of chunk %d of %d at %d", at, len(list), other)
				}
			}
			for many := -1; many <= piecesMax+2; many++ {
				ok := pieceCheck(t, root, many, at, s, proof)
				if ok && many != len(list) {
					same++
				}
				if ok && (many <= at || many > piecesMax) {
					t.Errorf("PieceCheck of chunk %d of %d in a tree of %d", at, len(list), many)
				}
			}
		}
	})
	if same == 0 {
		t.Error("no path is the same in trees of different numbers")
	}
}

func TestP55ManyOutOfRange(t *testing.T) {
	s := "x"
	list := slices.Repeat([]string{s}, 2*piecesMax)
	for many := 1; many <= len(list); many++ {
		root := modelRoot(list[:many])
		for at := range many {
			if got := pieceCheck(t, root, many, at, s, modelProof(list[:many], at)); got != (many <= piecesMax) {
				t.Errorf("PieceCheck is %v at %d of %d", got, at, many)
			}
		}
	}
	for _, many := range []int{0, -1, math.MinInt, math.MaxInt, 1 << 32, 1<<32 + 1} {
		for _, at := range []int{-1, 0, 1, many - 1} {
			if pieceCheck(t, modelLeaf(at, s), many, at, s, nil) {
				t.Errorf("PieceCheck at %d of %d", at, many)
			}
		}
	}
}

// TestP55AtOutOfRange has the root that a leaf of such a place would make, on either side of the others.
func TestP55AtOutOfRange(t *testing.T) {
	for many := 1; many <= piecesMax; many++ {
		for _, at := range []int{-2, -1, many, many + 1, math.MinInt, math.MaxInt} {
			roots, proof := []int{modelLeaf(at, "x")}, []int(nil)
			for n := range 6 {
				for _, root := range roots {
					if pieceCheck(t, root, many, at, "x", proof) {
						t.Fatalf("PieceCheck at %d of %d with %v", at, many, proof)
					}
				}
				proof = append(proof, n)
				var above []int
				for _, sum := range roots {
					above = append(above, modelNode(sum, n), modelNode(n, sum))
				}
				roots = above
			}
		}
	}
}

// TestP55SizeOfChunk has chunks of any size, each with the root that it makes.
func TestP55SizeOfChunk(t *testing.T) {
	for many := 1; many <= piecesMax; many++ {
		for at := range many {
			for size := range pieceSize + 3 {
				list := modelPieces(textOfSize(many * pieceSize))
				list[at] = strings.Repeat("\xff", size)
				if got := pieceCheck(t, modelRoot(list), many, at, list[at], modelProof(list, at)); got != (size <= pieceSize) {
					t.Errorf("PieceCheck of %d bytes is %v at %d of %d", size, got, at, many)
				}
			}
		}
	}
	if long := textOfSize(100000); pieceCheck(t, modelLeaf(0, long), 1, 0, long, nil) {
		t.Error("PieceCheck of 100000 bytes")
	}
}

// TestP55AnyNumbers has elements that are no checksums: they are numbers as any other.
func TestP55AnyNumbers(t *testing.T) {
	for _, n := range []int{0, -1, -5, sumMax, sumMax + 1, math.MinInt, math.MaxInt} {
		left, right := modelLeaf(0, "x"), modelLeaf(1, "y")
		if !pieceCheck(t, modelNode(left, n), 2, 0, "x", []int{n}) || !pieceCheck(t, modelNode(n, right), 2, 1, "y", []int{n}) {
			t.Errorf("PieceCheck fails with the element %d", n)
		}
		if pieceCheck(t, modelNode(n, left), 2, 0, "x", []int{n}) || pieceCheck(t, modelNode(right, n), 2, 1, "y", []int{n}) {
			t.Errorf("PieceCheck with the element %d on the other side", n)
		}
	}
	if pieceCheck(t, -1, 1, 0, "x", nil) || impl.PieceCheck(-1, 0, 0, "", nil) {
		t.Error("PieceCheck with the root of lists that are not well-formed")
	}
}

package tests

import (
	"fmt"

	"loop.example/wapentake/impl"
)

// The rules of the chapter on chunks told a second time, with a tree that is looked at from its root down.

func modelPieces(s string) []string {
	if len(s) > pieceSize*piecesMax {
		return nil
	}
	many := max(1, (len(s)+pieceSize-1)/pieceSize)
	var list []string
	for i := range many {
		list = append(list, s[i*pieceSize:min(len(s), (i+1)*pieceSize)])
	}
	return list
}

// modelWellFormed holds the list against the chunks of a text of the same length.
func modelWellFormed(list []string) bool {
	length := 0
	for _, s := range list {
		length += len(s)
	}
	want := modelPieces(string(make([]byte, min(length, pieceSize*piecesMax+1))))
	if len(list) != len(want) || len(list) == 0 {
		return false
	}
	for i, s := range list {
		if len(s) != len(want[i]) {
			return false
		}
	}
	return true
}

func modelLeaf(at int, s string) int {
	return sumOf(fmt.Sprintf("leaf %d %s", at, s))
}

func modelNode(a, b int) int {
	return sumOf(fmt.Sprintf("node %d %d", a, b))
}

// modelWidth is how many elements a level has: each has up to 2, 4, 8 and so on leaves below it.
func modelWidth(many, level int) int {
	below := 1 << level
	return (many + below - 1) / below
}

func modelHeight(many int) int {
	level := 0
	for modelWidth(many, level) > 1 {
		level++
	}
	return level
}

// modelElement is an element of the tree of any list, well-formed or not.
func modelElement(list []string, level, at int) int {
	if level == 0 {
		return modelLeaf(at, list[at])
	}
	left := modelElement(list, level-1, 2*at)
	if 2*at+1 == modelWidth(len(list), level-1) {
		return left
	}
	return modelNode(left, modelElement(list, level-1, 2*at+1))
}

// modelRoot is the root of any list that has an element.
func modelRoot(list []string) int {
	return modelElement(list, modelHeight(len(list)), 0)
}

// modelProof is the path of any chunk of any list.
func modelProof(list []string, at int) []int {
	var proof []int
	for level := range modelHeight(len(list)) {
		sibling := at>>level ^ 1
		if sibling < modelWidth(len(list), level) {
			proof = append(proof, modelElement(list, level, sibling))
		}
	}
	return proof
}

// modelClimb goes down to the leaf and uses the proof on its way back. It returns what is left of the proof too.
func modelClimb(many, level, at int, s string, proof []int) (int, []int, bool) {
	if level == 0 {
		return modelLeaf(at, s), proof, true
	}
	sum, rest, ok := modelClimb(many, level-1, at, s, proof)
	below := at >> (level - 1)
	if !ok || below%2 == 0 && below+1 == modelWidth(many, level-1) {
		return sum, rest, ok
	}
	if len(rest) == 0 {
		return 0, nil, false
	}
	if below%2 == 1 {
		return modelNode(rest[0], sum), rest[1:], true
	}
	return modelNode(sum, rest[0]), rest[1:], true
}

func modelCheck(root, many, at int, s string, proof []int) bool {
	if many < 1 || many > piecesMax || at < 0 || at >= many || len(s) > pieceSize {
		return false
	}
	sum, rest, ok := modelClimb(many, modelHeight(many), at, s, proof)
	return ok && len(rest) == 0 && sum == root
}

func modelTake(root, many int, list []impl.Piece) (string, bool) {
	if many < 1 || many > piecesMax || len(list) != many {
		return "", false
	}
	var texts []string
	whole := ""
	for i, p := range list {
		if p.At != i || !modelCheck(root, many, i, p.Text, p.Proof) {
			return "", false
		}
		texts = append(texts, p.Text)
		whole += p.Text
	}
	if !modelWellFormed(texts) {
		return "", false
	}
	return whole, true
}

package tests

import (
	"slices"

	"loop.example/wapentake/impl"
)

// The rules of the chapter on visibility told a second time.

func modelSees(me impl.Ent, x, y int) bool {
	return apart(me.X, x) <= 1 && apart(me.Y, y) <= 1
}

// modelSeeOf takes a valid state. It starts from a board of which nothing is seen.
func modelSeeOf(g impl.Game, client int) (impl.Game, bool) {
	me, ok := modelOf(g).figures[client]
	if !ok {
		return impl.Game{}, false
	}
	seen := impl.Game{Last: g.Last}
	for y := range side {
		for x := range side {
			if modelSees(me, x, y) {
				seen.Floor = append(seen.Floor, g.Floor[4*y+x])
			} else {
				seen.Floor = append(seen.Floor, -1)
			}
		}
	}
	for _, e := range g.Ents {
		if modelSees(me, e.X, e.Y) {
			seen.Ents = append(seen.Ents, e)
		}
	}
	return seen, true
}

// modelSeeMoves takes a valid state too.
func modelSeeMoves(g impl.Game, client int) []impl.Req {
	if client < 1 || client > clients || g.Last[client-1] == numbers {
		return nil
	}
	var moves []impl.Req
	for _, r := range asksOf(client, g.Last[client-1]+1) {
		if modelOf(g).play(r) == 0 {
			moves = append(moves, r)
		}
	}
	slices.SortFunc(moves, func(a, b impl.Req) int {
		return slices.Compare([]int{a.Op, a.X, a.Y}, []int{b.Op, b.X, b.Y})
	})
	return moves
}

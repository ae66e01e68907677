package tests

import (
	"slices"
	"strconv"
	"strings"
	"testing"

	"loop.example/wapentake/impl"
)

// mustMove says which requests go, each without the client and the number.
func mustMove(t *testing.T, g impl.Game, client int, want ...string) {
	t.Helper()
	var got []string
	for _, r := range seeMoves(t, g, client) {
		words := strings.SplitN(textOf(r), " ", 3)
		if words[0] != strconv.Itoa(client) || words[1] != strconv.Itoa(g.Last[client-1]+1) {
			t.Errorf("%d may do %v in %v", client, r, g)
		}
		got = append(got, words[2])
	}
	if !slices.Equal(got, want) {
		t.Errorf("%d may do %q\nin   %v\nwant %q", client, got, g, want)
	}
}

func mustNotMove(t *testing.T, name string, g impl.Game, client int) {
	t.Helper()
	if moves := seeMoves(t, g, client); len(moves) > 0 {
		t.Errorf("%s: %d may do %v in %v", name, client, moves, g)
	}
}

// steps is all moves of a figure that is at no edge.
func steps() []string {
	return []string{"move -1 -1", "move -1 0", "move -1 1", "move 0 -1", "move 0 0", "move 0 1", "move 1 -1", "move 1 0", "move 1 1"}
}

// gifts is giving a client each number of pieces up to that many.
func gifts(client, many int) []string {
	var list []string
	for n := 1; n <= many; n++ {
		list = append(list, "give "+strconv.Itoa(client)+" "+strconv.Itoa(n))
	}
	return list
}

func TestP62NoFigure(t *testing.T) {
	for client := 1; client <= clients; client++ {
		mustMove(t, impl.GameNew(), client, "join 0 0")
	}
	g := withFigures(figureAt(1, 1, 1), figureAt(3, 1, 1))
	g.Last = []int{0, 29, 7, 11}
	mustMove(t, g, 2, "join 0 0")
	mustMove(t, g, 4, "join 0 0")
}

func TestP62AloneInside(t *testing.T) {
	mustMove(t, gameWith(figureAt(2, 1, 2)), 2, steps()...)
	mustMove(t, withFigures(figureAt(2, 1, 2)), 2, append(steps(), "take 0 0")...)
	// Gold is of no use to one who is alone.
	mustMove(t, gameWith(impl.Ent{Client: 2, X: 1, Y: 2, Gold: gold}), 2, steps()...)
}

func TestP62CornersAndEdges(t *testing.T) {
	for _, x := range []struct {
		x, y int
		want []string
	}{
		{0, 3, []string{"move 0 -1", "move 0 0", "move 1 -1", "move 1 0"}},
		{3, 0, []string{"move -1 0", "move -1 1", "move 0 0", "move 0 1"}},
		{3, 3, []string{"move -1 -1", "move -1 0", "move 0 -1", "move 0 0"}},
		{0, 1, []string{"move 0 -1", "move 0 0", "move 0 1", "move 1 -1", "move 1 0", "move 1 1"}},
		{3, 2, []string{"move -1 -1", "move -1 0", "move -1 1", "move 0 -1", "move 0 0", "move 0 1"}},
		{2, 0, []string{"move -1 0", "move -1 1", "move 0 0", "move 0 1", "move 1 0", "move 1 1"}},
		{1, 3, []string{"move -1 -1", "move -1 0", "move 0 -1", "move 0 0", "move 1 -1", "move 1 0"}},
	} {
		mustMove(t, gameWith(figureAt(4, x.x, x.y)), 4, x.want...)
	}
	mustMove(t, gameWith(figureAt(4, 0, 0)), 4, "move 0 0", "move 0 1", "move 1 0", "move 1 1", "take 0 0")
}

// TestP62Take has all gold on one square.
func TestP62Take(t *testing.T) {
	for mine := range side * side {
		for at := range side * side {
			g := withFigures(figureAt(1, mine%side, mine/side))
			g.Floor = make([]int, side*side)
			g.Floor[at] = gold
			takes := slices.Contains(seeMoves(t, g, 1), impl.Req{Client: 1, Num: 1, Op: impl.OpTake})
			if takes != (mine == at) {
				t.Errorf("taking goes: %v, in %v", takes, g)
			}
		}
	}
	// The last piece can be taken.
	g := gameWith(impl.Ent{Client: 1, X: 0, Y: 0, Gold: 19})
	mustMove(t, g, 1, "move 0 0", "move 0 1", "move 1 0", "move 1 1", "take 0 0")
}

func TestP62BesideOthers(t *testing.T) {
	near := gameWith(figureAt(1, 1, 1), figureAt(2, 2, 2), figureAt(3, 1, 1), figureAt(4, 3, 1))
	mustMove(t, near, 1, append(steps(), "hit 2 0", "hit 3 0")...)
	mustMove(t, near, 2, append(steps(), "hit 1 0", "hit 3 0", "hit 4 0")...)
	mustMove(t, near, 3, append(steps(), "hit 1 0", "hit 2 0")...)
	mustMove(t, gameWith(figureAt(1, 1, 1), figureAt(2, 3, 3), figureAt(3, 1, 3)), 1, steps()...)
	rich := near
	rich.Ents = []impl.Ent{{Client: 1, X: 1, Y: 1, Gold: 2}, figureAt(2, 2, 2), figureAt(3, 1, 1), figureAt(4, 3, 1)}
	rich.Floor = slices.Clone(near.Floor)
	rich.Floor[0] -= 2
	mustMove(t, rich, 1, slices.Concat(steps(), []string{"hit 2 0", "hit 3 0"}, gifts(2, 2), gifts(3, 2))...)
}

// TestP62Gifts has gold for no gift, for some, for every, and for more than can be given.
func TestP62Gifts(t *testing.T) {
	for n := range gold + 1 {
		g := gameWith(impl.Ent{Client: 1, X: 2, Y: 2, Life: 1}, impl.Ent{Client: 3, X: 2, Y: 1, Life: 1, Gold: n})
		mustMove(t, g, 3, slices.Concat(steps(), []string{"hit 1 0"}, gifts(1, min(n, 9)))...)
		mustMove(t, g, 1, slices.Concat(steps(), []string{"hit 3 0"})...)
	}
}

// TestP62Everything is the longest list that there is.
func TestP62Everything(t *testing.T) {
	g := withFigures(figureAt(1, 2, 1), impl.Ent{Client: 2, X: 1, Y: 1, Life: 0, Gold: 9}, figureAt(3, 0, 0), figureAt(4, 1, 1))
	g.Floor = []int{0, 0, 0, 0, 0, 11, 0, 0, 0, 0, 0, 0, 0, 0, 0, 0}
	g.Last[1] = 12
	mustMove(t, g, 2, slices.Concat(steps(), []string{"take 0 0", "hit 1 0", "hit 3 0", "hit 4 0"}, gifts(1, 9), gifts(3, 9), gifts(4, 9))...)
}

func TestP62Last(t *testing.T) {
	for _, figures := range [][]impl.Ent{nil, {figureAt(2, 1, 1)}, {figureAt(1, 1, 1), figureAt(2, 1, 1)}} {
		for last := range numbers + 1 {
			g := gameWith(figures...)
			g.Last = []int{30, last, 30, 0}
			moves := seeMoves(t, g, 2)
			if last == numbers {
				mustNotMove(t, "no number is left", g, 2)
			} else if len(moves) == 0 || moves[0].Num != last+1 || moves[len(moves)-1].Num != last+1 {
				t.Errorf("behind %d: %v", last, moves)
			}
			mustNotMove(t, "no number is left", g, 1)
			mustNotMove(t, "no number is left", g, 3)
		}
	}
}

func TestP62NoClient(t *testing.T) {
	for _, client := range noClients() {
		mustNotMove(t, "no client", impl.GameNew(), client)
		mustNotMove(t, "no client", withFigures(figureAt(1, 1, 1), figureAt(4, 1, 1)), client)
	}
}

func TestP62EachState(t *testing.T) {
	for _, g := range someGames() {
		for client := -1; client <= clients+2; client++ {
			seeMoves(t, g, client)
		}
	}
}

func TestP62InvalidStates(t *testing.T) {
	for _, b := range badGames() {
		for client := -1; client <= clients+2; client++ {
			mustNotMove(t, b.name, b.game, client)
		}
	}
}

package tests

import (
	"slices"
	"strconv"
	"testing"

	"loop.example/wapentake/impl"
)

func TestLimitsOfSight(t *testing.T) {
	if impl.SeeFar != 1 {
		t.Errorf("SeeFar is %d", impl.SeeFar)
	}
}

// mustSee says which clients' figures are seen, and which floor.
func mustSee(t *testing.T, g impl.Game, client int, figures []int, floor ...int) {
	t.Helper()
	seen, ok := seeOf(t, g, client)
	var got []int
	for _, e := range seen.Ents {
		got = append(got, e.Client)
	}
	if !ok || !slices.Equal(got, figures) || !slices.Equal(seen.Floor, floor) {
		t.Errorf("%d sees %v %v\nof   %v\nwant %v %v", client, seen, ok, g, figures, floor)
	}
}

func mustSeeNothing(t *testing.T, name string, g impl.Game, client int) {
	t.Helper()
	if seen, ok := seeOf(t, g, client); ok || !isZeroGame(seen) {
		t.Errorf("%s: %d sees %v %v", name, client, seen, ok)
	}
}

// withFigures is a new game with these figures.
func withFigures(ents ...impl.Ent) impl.Game {
	g := impl.GameNew()
	g.Ents = ents
	return g
}

// TestP61Places has a figure in each corner, at each edge and inside, on a floor of which no two rows are the same.
func TestP61Places(t *testing.T) {
	g := withFigures(figureAt(1, 0, 0), figureAt(2, 3, 0), figureAt(3, 0, 3), figureAt(4, 3, 3))
	g.Floor = []int{2, 1, 0, 3, 0, 2, 1, 0, 1, 0, 4, 1, 0, 3, 0, 2}
	mustSee(t, g, 1, []int{1}, 2, 1, -1, -1, 0, 2, -1, -1, -1, -1, -1, -1, -1, -1, -1, -1)
	mustSee(t, g, 2, []int{2}, -1, -1, 0, 3, -1, -1, 1, 0, -1, -1, -1, -1, -1, -1, -1, -1)
	mustSee(t, g, 3, []int{3}, -1, -1, -1, -1, -1, -1, -1, -1, 1, 0, -1, -1, 0, 3, -1, -1)
	mustSee(t, g, 4, []int{4}, -1, -1, -1, -1, -1, -1, -1, -1, -1, -1, 4, 1, -1, -1, 0, 2)
	g.Ents = []impl.Ent{figureAt(1, 1, 0), figureAt(2, 3, 2), figureAt(3, 2, 3), figureAt(4, 0, 1)}
	mustSee(t, g, 1, []int{1, 4}, 2, 1, 0, -1, 0, 2, 1, -1, -1, -1, -1, -1, -1, -1, -1, -1)
	mustSee(t, g, 2, []int{2, 3}, -1, -1, -1, -1, -1, -1, 1, 0, -1, -1, 4, 1, -1, -1, 0, 2)
	mustSee(t, g, 3, []int{2, 3}, -1, -1, -1, -1, -1, -1, -1, -1, -1, 0, 4, 1, -1, 3, 0, 2)
	mustSee(t, g, 4, []int{1, 4}, 2, 1, -1, -1, 0, 2, -1, -1, 1, 0, -1, -1, -1, -1, -1, -1)
	g.Ents = []impl.Ent{figureAt(1, 1, 1), figureAt(3, 2, 1), figureAt(4, 2, 2)}
	mustSee(t, g, 1, []int{1, 3, 4}, 2, 1, 0, -1, 0, 2, 1, -1, 1, 0, 4, -1, -1, -1, -1, -1)
	mustSee(t, g, 4, []int{1, 3, 4}, -1, -1, -1, -1, -1, 2, 1, 0, -1, 0, 4, 1, -1, 3, 0, 2)
}

// TestP61TwoFigures has two figures on each two squares.
func TestP61TwoFigures(t *testing.T) {
	for mine := range side * side {
		for other := range side * side {
			me, you := figureAt(2, mine%side, mine/side), figureAt(3, other%side, other/side)
			near := apart(me.X, you.X) <= 1 && apart(me.Y, you.Y) <= 1
			for _, g := range []impl.Game{withFigures(me, you), gameWith(me, you)} {
				seen, ok := seeOf(t, g, 2)
				if !ok || slices.Contains(seen.Ents, you) != near || !slices.Contains(seen.Ents, me) || (seen.Floor[other] != -1) != near {
					t.Errorf("%v sees %v", me, seen)
				}
				seeOf(t, g, 3)
			}
		}
	}
}

func TestP61JustNearEnough(t *testing.T) {
	me := figureAt(1, 1, 1)
	for name, x := range map[string]struct {
		x, y int
		near bool
	}{
		"near in X": {2, 1, true}, "near in Y": {1, 2, true}, "near in both": {2, 2, true}, "near in both, on the other side": {0, 0, true}, "on the same square": {1, 1, true},
		"far in X": {3, 1, false}, "far in Y": {1, 3, false}, "far in both": {3, 3, false}, "far in X, near in Y": {3, 2, false}, "near in X, far in Y": {2, 3, false},
		"far in X, near in Y on the other side": {3, 0, false}, "near in X on the other side, far in Y": {0, 3, false},
	} {
		seen, ok := seeOf(t, withFigures(me, figureAt(4, x.x, x.y)), 1)
		if !ok || (len(seen.Ents) == 2) != x.near {
			t.Errorf("%s: %v %v", name, seen, ok)
		}
		if seen, ok = seeOf(t, withFigures(figureAt(1, x.x, x.y), figureAt(2, 1, 1)), 2); !ok || (len(seen.Ents) == 2) != x.near {
			t.Errorf("%s, from the other one: %v %v", name, seen, ok)
		}
	}
}

// TestP61SameSquare has all figures on one square, whatever they have.
func TestP61SameSquare(t *testing.T) {
	for at := range side * side {
		ents := []impl.Ent{figureAt(1, at%side, at/side), figureAt(2, at%side, at/side), figureAt(3, at%side, at/side), figureAt(4, at%side, at/side)}
		ents[0].Life, ents[1].Gold, ents[3].Gold, ents[3].Life = 0, 5, 3, 1
		for client := 1; client <= clients; client++ {
			if seen, ok := seeOf(t, gameWith(ents...), client); !ok || !slices.Equal(seen.Ents, ents) {
				t.Errorf("%d sees %v %v", client, seen, ok)
			}
		}
	}
}

// TestP61Gold has all gold on one square, seen or not.
func TestP61Gold(t *testing.T) {
	for mine := range side * side {
		me := figureAt(3, mine%side, mine/side)
		for at := range side * side {
			g := impl.Game{Ents: []impl.Ent{me}, Floor: make([]int, side*side), Last: []int{1, 2, 3, 30}}
			g.Floor[at] = gold
			seen, ok := seeOf(t, g, 3)
			want := -1
			if modelSees(me, at%side, at/side) {
				want = gold
			}
			if !ok || seen.Floor[at] != want || !slices.Equal(seen.Last, g.Last) {
				t.Errorf("%v sees %v %v of %v", me, seen, ok, g)
			}
		}
	}
}

func TestP61NoFigure(t *testing.T) {
	g := withFigures(figureAt(1, 0, 0), figureAt(3, 1, 1))
	for _, client := range append(noClients(), 2, 4) {
		mustSeeNothing(t, "no figure", g, client)
		mustSeeNothing(t, "no figure at all", impl.GameNew(), client)
	}
	for client := 1; client <= clients; client++ {
		mustSeeNothing(t, "no figure at all", impl.GameNew(), client)
	}
}

func TestP61EachState(t *testing.T) {
	for _, g := range someGames() {
		for client := -1; client <= clients+2; client++ {
			_, ok := seeOf(t, g, client)
			if _, here := modelOf(g).figures[client]; ok != here {
				t.Fatalf("SeeOf for %d of %v is %v", client, g, ok)
			}
		}
	}
}

func TestP61InvalidStates(t *testing.T) {
	for _, b := range badGames() {
		for client := -1; client <= clients+2; client++ {
			mustSeeNothing(t, b.name, b.game, client)
		}
	}
	// What is seen is no valid state: its floor has -1.
	seen, _ := seeOf(t, withFigures(figureAt(1, 0, 0)), 1)
	mustSeeNothing(t, "seen", seen, 1)
}

func mustHaveGold(t *testing.T, name string, g impl.Game, figures, floor int) {
	t.Helper()
	if a, b := seeGold(t, g); a != figures || b != floor {
		t.Errorf("%s: SeeGold is %d %d, want %d %d", name, a, b, figures, floor)
	}
}

func TestP63Examples(t *testing.T) {
	mustHaveGold(t, "a new game", impl.GameNew(), 0, gold)
	mustHaveGold(t, "all on one square", gameWith(figureAt(1, 0, 0)), 0, gold)
	mustHaveGold(t, "all at one figure", gameWith(impl.Ent{Client: 4, X: 3, Y: 2, Gold: gold}), gold, 0)
	mustHaveGold(t, "all at two figures", gameWith(impl.Ent{Client: 1, Gold: 19}, impl.Ent{Client: 2, Gold: 1}), gold, 0)
	mustHaveGold(t, "all at four figures", gameWith(impl.Ent{Client: 1, Gold: 2}, impl.Ent{Client: 2, Gold: 3}, impl.Ent{Client: 3, Gold: 4}, impl.Ent{Client: 4, Gold: 11}), gold, 0)
	mustHaveGold(t, "one piece at a figure", gameWith(impl.Ent{Client: 3, Gold: 1}), 1, 19)
	mustHaveGold(t, "one piece on the floor", gameWith(impl.Ent{Client: 3, Gold: 12}, impl.Ent{Client: 4, Gold: 7}), 19, 1)
	mustHaveGold(t, "half", gameWith(impl.Ent{Client: 1, Gold: 4}, impl.Ent{Client: 2}, impl.Ent{Client: 3, Gold: 6}), 10, 10)
}

// TestP63Removed has a figure's gold go to the floor with its last life.
func TestP63Removed(t *testing.T) {
	g := gameWith(impl.Ent{Client: 1, X: 1, Y: 1, Life: 3, Gold: 4}, impl.Ent{Client: 2, X: 2, Y: 1, Life: 1, Gold: 9})
	for _, x := range []struct {
		ask            string
		figures, floor int
	}{{"1 1 give 2 4", 13, 7}, {"1 1 hit 2 0", 4, 16}, {"1 1 move 0 1", 13, 7}, {"1 1 take 0 0", 13, 7}, {"2 1 give 1 9", 13, 7}} {
		next, _ := impl.GameDo(g, mustReq(t, x.ask))
		mustHaveGold(t, x.ask, next, x.figures, x.floor)
	}
}

// TestP63EachState looks at the gold behind each request too.
func TestP63EachState(t *testing.T) {
	for _, g := range someGames() {
		seeGold(t, g)
		for client := 1; client <= clients; client++ {
			for _, r := range impl.SeeMoves(g, client) {
				next, _ := impl.GameDo(g, r)
				if figures, floor := impl.SeeGold(next); figures+floor != gold || figures < 0 || floor < 0 {
					t.Fatalf("%v in %v: gold %d %d", r, g, figures, floor)
				}
			}
		}
	}
}

func TestP63InvalidStates(t *testing.T) {
	for _, b := range badGames() {
		mustHaveGold(t, b.name, b.game, -1, -1)
	}
	for n := range gold {
		g := gameWith(impl.Ent{Client: 1, Gold: n})
		g.Floor[0]--
		mustHaveGold(t, "one less than all, "+strconv.Itoa(n), g, -1, -1)
		g.Floor[0] += 2
		mustHaveGold(t, "one more than all, "+strconv.Itoa(n), g, -1, -1)
	}
}

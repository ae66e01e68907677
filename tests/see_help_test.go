package tests

import (
	"math"
	"slices"
	"testing"

	"loop.example/wapentake/impl"
)

// withGame calls use with a copy of g that has spare capacity, and fails if anything in it is another then.
func withGame(t *testing.T, g impl.Game, use func(impl.Game)) {
	t.Helper()
	untouched(t, roomy(g.Ents, impl.Ent{Client: -7}), func(ents []impl.Ent) {
		untouched(t, roomy(g.Floor, -7), func(floor []int) {
			untouched(t, roomy(g.Last, -7), func(last []int) {
				use(impl.Game{Ents: ents, Floor: floor, Last: last})
			})
		})
	})
}

// seeOf is SeeOf, held against the model and promise 61; so are the next ones with the functions of their names and the promises 62 and 63.
func seeOf(t *testing.T, g impl.Game, client int) (impl.Game, bool) {
	t.Helper()
	var got impl.Game
	ok := false
	withGame(t, g, func(g impl.Game) {
		result, seen := impl.SeeOf(g, client)
		checkApart(t, "SeeOf", result)
		got, ok = cloneGame(result), seen
		overwriteGame(result)
	})
	want, wantOk := impl.Game{}, false
	if impl.GameOk(g) {
		want, wantOk = modelSeeOf(g, client)
	}
	if ok != wantOk || !sameGame(got, want) {
		t.Fatalf("SeeOf for %d\nof   %v\nis   %v %v\nwant %v %v", client, g, got, ok, want, wantOk)
	}
	if ok {
		checkP61(t, g, got, client)
	}
	return got, ok
}

func checkP61(t *testing.T, g, got impl.Game, client int) {
	t.Helper()
	own := false
	for _, e := range got.Ents {
		own = own || e.Client == client
		if !slices.Contains(g.Ents, e) {
			t.Fatalf("%d sees a figure %v of %v", client, e, g)
		}
	}
	if !own || !slices.Equal(got.Last, g.Last) || len(got.Floor) != side*side {
		t.Fatalf("%d sees %v of %v", client, got, g)
	}
	for i, n := range got.Floor {
		if n != -1 && n != g.Floor[i] {
			t.Fatalf("%d sees %d on square %d of %v", client, n, i, g)
		}
	}
}

func seeMoves(t *testing.T, g impl.Game, client int) []impl.Req {
	t.Helper()
	var got []impl.Req
	withGame(t, g, func(g impl.Game) {
		result := impl.SeeMoves(g, client)
		got = slices.Clone(result)
		overwrite(result, impl.Req{Client: -9})
	})
	var want []impl.Req
	if impl.GameOk(g) {
		want = modelSeeMoves(g, client)
	}
	if !slices.Equal(got, want) {
		t.Fatalf("SeeMoves for %d\nof   %v\nis   %v\nwant %v", client, g, got, want)
	}
	checkP62(t, g, got, client)
	return got
}

func checkP62(t *testing.T, g impl.Game, moves []impl.Req, client int) {
	t.Helper()
	here := slices.ContainsFunc(g.Ents, func(e impl.Ent) bool { return e.Client == client })
	for i, r := range moves {
		_, code := impl.GameDo(g, r)
		if code != impl.CodeFine || !impl.ReqOk(r) || r.Client != client || r.Num != g.Last[client-1]+1 || (r.Op == impl.OpJoin) == here {
			t.Fatalf("%d may do %v in %v: code %d", client, r, g, code)
		}
		if i > 0 && !impl.ReqLess(moves[i-1], r) {
			t.Fatalf("%v is ahead of %v", moves[i-1], r)
		}
	}
}

func seeGold(t *testing.T, g impl.Game) (int, int) {
	t.Helper()
	figures, floor := 0, 0
	withGame(t, g, func(g impl.Game) { figures, floor = impl.SeeGold(g) })
	want, wantFloor := -1, -1
	if impl.GameOk(g) {
		want, wantFloor = 0, 0
		for _, e := range g.Ents {
			want += e.Gold
		}
		for _, n := range g.Floor {
			wantFloor += n
		}
		if figures+floor != gold {
			t.Fatalf("SeeGold of %v is %d %d", g, figures, floor)
		}
	}
	if figures != want || floor != wantFloor {
		t.Fatalf("SeeGold of %v is %d %d, want %d %d", g, figures, floor, want, wantFloor)
	}
	return figures, floor
}

// figureAt is a figure without gold.
func figureAt(client, x, y int) impl.Ent {
	return impl.Ent{Client: client, X: x, Y: y, Life: life}
}

// noClients is numbers that are no client's.
func noClients() []int {
	return []int{-1, 0, clients + 1, clients + 2, 1 << 32, 1<<32 + 1, math.MinInt, math.MaxInt}
}

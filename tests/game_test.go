package tests

import (
	"slices"
	"testing"

	"loop.example/wapentake/impl"
)

func TestGameNew(t *testing.T) {
	g := impl.GameNew()
	want := impl.Game{
		Floor: []int{2, 1, 1, 1, 1, 2, 1, 1, 1, 1, 2, 1, 1, 1, 1, 2},
		Last:  []int{0, 0, 0, 0},
	}
	if !sameGame(g, want) {
		t.Errorf("GameNew is %v", g)
	}
	if !impl.GameOk(g) {
		t.Error("GameNew is not valid")
	}
	g.Floor[0], g.Last[0] = 9, 9
	if !sameGame(impl.GameNew(), want) {
		t.Error("two new games share memory")
	}
}

func TestGameOk(t *testing.T) {
	for i, g := range someGames() {
		if !impl.GameOk(g) {
			t.Errorf("state %d is not valid: %v", i, g)
		}
	}
	for _, b := range badGames() {
		if impl.GameOk(b.game) {
			t.Errorf("valid: %s", b.name)
		}
	}
	same := gameWith(impl.Ent{Client: 1, X: 2, Y: 2}, impl.Ent{Client: 3, X: 2, Y: 2, Life: 3})
	if !impl.GameOk(same) {
		t.Error("two figures may stand on one square")
	}
}

func TestP4InvalidArguments(t *testing.T) {
	asks := append(badAsks(), impl.Req{}, impl.Req{Client: 1, Num: 1, Op: impl.OpTake})
	for _, b := range badGames() {
		for _, r := range asks {
			if g, code := impl.GameDo(b.game, r); code != impl.CodeForm || !isZeroGame(g) {
				t.Errorf("%s, %v: %v %d", b.name, r, g, code)
			}
		}
	}
	played := impl.GameFold(mustReqs(t, "1 5 join 0 0", "2 5 join 0 0"))
	for _, r := range badAsks() {
		if g, code := impl.GameDo(played, r); code != impl.CodeForm || !isZeroGame(g) {
			t.Errorf("%v: %v %d", r, g, code)
		}
	}
}

// nextAsks is every request that each client may make next, with the numbers around its last one, and the null request.
func nextAsks(g impl.Game) []impl.Req {
	list := []impl.Req{{}}
	for client := 1; client <= clients; client++ {
		last := g.Last[client-1]
		for _, num := range []int{1, last, numbers} {
			if num >= 1 {
				list = append(list, asksOf(client, num)...)
			}
		}
		if last < numbers {
			list = append(list, asksOf(client, last+1)...)
		}
	}
	return list
}

// TestP4P5EveryRequest holds every request in many states against the rules of the model, and then looks at what P4 and P5 say.
func TestP4P5EveryRequest(t *testing.T) {
	seen := map[int]int{}
	for _, g := range someGames() {
		before := cloneGame(g)
		for _, r := range nextAsks(g) {
			m := modelOf(before)
			want := m.play(r)
			got, code := impl.GameDo(g, r)
			if code != want || !sameGame(got, m.game()) {
				t.Fatalf("%v in %v: %d %v, want %d %v", r, before, code, got, want, m.game())
			}
			if !sameGame(g, before) {
				t.Fatalf("%v changes the state that is passed in", r)
			}
			seen[code]++
			checkP4(t, got, r)
			checkP5(t, before, got, r, code)
		}
	}
	for code := 0; code <= 8; code++ {
		if seen[code] == 0 && code != impl.CodeForm {
			t.Errorf("no request gave code %d", code)
		}
	}
}

func checkP4(t *testing.T, g impl.Game, r impl.Req) {
	t.Helper()
	if !impl.GameOk(g) || totalGold(g) != gold {
		t.Fatalf("%v leads to %v", r, g)
	}
	want := impl.CodeOld
	if r == (impl.Req{}) {
		want = impl.CodeNone
	}
	again, code := impl.GameDo(g, r)
	if code != want || !sameGame(again, g) {
		t.Fatalf("%v again: %d %v", r, code, again)
	}
}

func checkP5(t *testing.T, before, after impl.Game, r impl.Req, code int) {
	t.Helper()
	last := slices.Clone(before.Last)
	if code != impl.CodeOld && code != impl.CodeNone {
		last[r.Client-1] = r.Num
	}
	if !slices.Equal(after.Last, last) {
		t.Fatalf("%v, code %d: last is %v, want %v", r, code, after.Last, last)
	}
	if code != impl.CodeFine && (!slices.Equal(after.Ents, before.Ents) || !slices.Equal(after.Floor, before.Floor)) {
		t.Fatalf("%v, code %d: %v becomes %v", r, code, before, after)
	}
}

// step is a request and the code that it must have.
type step struct {
	ask  string
	code int
}

func playSteps(t *testing.T, g impl.Game, steps []step) impl.Game {
	t.Helper()
	for i, s := range steps {
		r := mustReq(t, s.ask)
		next, code := impl.GameDo(g, r)
		if code != s.code {
			t.Fatalf("step %d, %s: code %d, want %d", i, s.ask, code, s.code)
		}
		checkP4(t, next, r)
		checkP5(t, g, next, r, code)
		g = next
	}
	return g
}

func TestP4Join(t *testing.T) {
	g := playSteps(t, impl.GameNew(), []step{
		{"3 1 join 0 0", 0}, {"1 1 join 0 0", 0}, {"4 1 join 0 0", 0}, {"2 1 join 0 0", 0},
		{"1 2 move 1 0", 0}, {"1 3 join 0 0", 4}, {"1 30 join 0 0", 4}, {"1 30 join 0 0", 3}, {"1 29 take 0 0", 3},
	})
	want := []impl.Ent{
		{Client: 1, X: 1, Y: 0, Life: 3}, {Client: 2, X: 1, Y: 1, Life: 3},
		{Client: 3, X: 2, Y: 2, Life: 3}, {Client: 4, X: 3, Y: 3, Life: 3},
	}
	if !slices.Equal(g.Ents, want) || !slices.Equal(g.Last, []int{30, 1, 1, 1}) {
		t.Error(g)
	}
}

func TestP4Move(t *testing.T) {
	steps := []step{{"1 1 join 0 0", 0}, {"1 2 move -1 0", 6}, {"1 3 move 0 -1", 6}, {"1 4 move -1 1", 6}, {"1 5 move 1 -1", 6}, {"1 6 move 0 0", 0}}
	g := playSteps(t, impl.GameNew(), steps)
	if g.Ents[0] != (impl.Ent{Client: 1, Life: 3}) {
		t.Error(g.Ents)
	}
	g = playSteps(t, g, []step{{"1 7 move 1 1", 0}, {"1 8 move 1 0", 0}, {"1 9 move 1 0", 0}, {"1 10 move 1 0", 6}, {"1 11 move 1 1", 6}})
	if g.Ents[0] != (impl.Ent{Client: 1, X: 3, Y: 1, Life: 3}) {
		t.Error(g.Ents)
	}
	g = playSteps(t, g, []step{{"1 12 move -1 1", 0}, {"1 13 move 0 1", 0}, {"1 14 move 0 1", 6}, {"1 15 move -1 0", 0}})
	if g.Ents[0] != (impl.Ent{Client: 1, X: 1, Y: 3, Life: 3}) {
		t.Error(g.Ents)
	}
}

func TestP4Take(t *testing.T) {
	g := playSteps(t, impl.GameNew(), []step{
		{"2 1 take 0 0", 5}, {"2 2 join 0 0", 0}, {"2 3 move 1 0", 0}, {"2 4 take 0 0", 0}, {"2 5 take 0 0", 7},
		{"2 6 move 1 1", 0}, {"2 7 take 0 0", 0}, {"2 8 take 0 0", 7},
	})
	if g.Ents[0] != (impl.Ent{Client: 2, X: 3, Y: 2, Life: 3, Gold: 2}) {
		t.Error(g.Ents)
	}
	// The square with X 2 and Y 1 has index 6, the one with X 3 and Y 2 index 11.
	if want := []int{2, 1, 1, 1, 1, 2, 0, 1, 1, 1, 2, 0, 1, 1, 1, 2}; !slices.Equal(g.Floor, want) {
		t.Error(g.Floor)
	}
}

func TestP4Hit(t *testing.T) {
	g := playSteps(t, impl.GameNew(), []step{
		{"1 1 join 0 0", 0}, {"2 1 join 0 0", 0}, {"3 1 join 0 0", 0},
		{"1 2 take 0 0", 0}, {"1 3 take 0 0", 0}, {"1 4 hit 3 0", 8}, {"1 5 hit 4 0", 8}, {"1 6 hit 1 0", 8},
		{"2 2 hit 1 0", 0}, {"2 3 hit 3 0", 0},
	})
	want := []impl.Ent{
		{Client: 1, Life: 2, Gold: 2}, {Client: 2, X: 1, Y: 1, Life: 3}, {Client: 3, X: 2, Y: 2, Life: 2},
	}
	if !slices.Equal(g.Ents, want) || g.Floor[0] != 0 {
		t.Error(g)
	}
	g = playSteps(t, g, []step{{"1 7 move 0 1", 0}, {"2 4 hit 1 0", 0}, {"2 5 hit 1 0", 0}, {"2 6 hit 1 0", 8}})
	want = []impl.Ent{{Client: 2, X: 1, Y: 1, Life: 3}, {Client: 3, X: 2, Y: 2, Life: 2}}
	// The gold stays where the figure was hit: on the square with X 0 and Y 1, on which one piece lay.
	if !slices.Equal(g.Ents, want) || g.Floor[0] != 0 || g.Floor[4] != 3 {
		t.Error(g)
	}
	g = playSteps(t, g, []step{{"1 8 take 0 0", 5}, {"1 9 join 0 0", 0}, {"1 10 take 0 0", 7}})
	if g.Ents[0] != (impl.Ent{Client: 1, Life: 3}) {
		t.Error("who joins again begins anew", g.Ents)
	}
}

// A valid state may hold a figure without life: a hit leaves none, so it is removed.
func TestP4HitWithoutLife(t *testing.T) {
	g := gameWith(impl.Ent{Client: 1, X: 3, Y: 1, Life: 2}, impl.Ent{Client: 2, X: 3, Y: 2, Gold: 6}, impl.Ent{Client: 4, X: 2, Y: 2, Life: 1, Gold: 5})
	g = playSteps(t, g, []step{{"1 1 hit 2 0", 0}, {"1 2 hit 4 0", 0}})
	if !slices.Equal(g.Ents, []impl.Ent{{Client: 1, X: 3, Y: 1, Life: 2}}) || g.Floor[11] != 6 || g.Floor[10] != 5 || g.Floor[0] != 9 {
		t.Error(g)
	}
}

func TestP4Give(t *testing.T) {
	g := gameWith(impl.Ent{Client: 1, Life: 1, Gold: 9}, impl.Ent{Client: 3, X: 1, Life: 0}, impl.Ent{Client: 4, X: 2, Y: 1, Life: 3, Gold: 3})
	g = playSteps(t, g, []step{
		{"1 1 give 3 9", 0}, {"1 2 give 3 1", 7}, {"3 1 give 1 4", 0}, {"3 2 give 4 6", 7}, {"3 3 give 4 5", 0},
		{"1 3 give 4 4", 8}, {"1 4 give 4 9", 8}, {"1 5 give 1 1", 8}, {"1 6 give 1 9", 8}, {"1 7 give 2 9", 8}, {"2 1 give 1 1", 5}, {"2 2 give 2 1", 5},
	})
	want := []impl.Ent{
		{Client: 1, Life: 1, Gold: 4}, {Client: 3, X: 1}, {Client: 4, X: 2, Y: 1, Life: 3, Gold: 8},
	}
	if !slices.Equal(g.Ents, want) || g.Floor[0] != 8 {
		t.Error(g)
	}
}

// Each state and request here meets two conditions: the one that the document considers first decides.
func TestP5OrderOfCodes(t *testing.T) {
	g := gameWith(impl.Ent{Client: 1, Life: 3}, impl.Ent{Client: 2, X: 3, Y: 3, Life: 3})
	g.Last = []int{5, 0, 7, 0}
	cases := []step{
		{"none", impl.CodeNone},
		{"1 5 join 0 0", impl.CodeOld}, {"1 4 move -1 0", impl.CodeOld}, {"1 1 hit 2 0", impl.CodeOld}, {"1 5 give 2 1", impl.CodeOld},
		{"3 7 take 0 0", impl.CodeOld}, {"3 6 join 0 0", impl.CodeOld}, {"3 7 hit 1 0", impl.CodeOld},
		{"1 6 join 0 0", impl.CodeThere}, {"3 8 join 0 0", impl.CodeFine},
		{"3 8 move -1 -1", impl.CodeOff}, {"3 8 take 0 0", impl.CodeOff}, {"3 8 hit 3 0", impl.CodeOff}, {"3 8 hit 1 0", impl.CodeOff},
		{"3 8 give 3 9", impl.CodeOff}, {"3 8 give 1 1", impl.CodeOff},
		{"1 6 give 1 1", impl.CodeFar}, {"1 6 give 2 1", impl.CodeFar}, {"1 6 give 4 1", impl.CodeFar},
		{"2 1 take 0 0", impl.CodePoor}, {"1 6 take 0 0", impl.CodeFine},
	}
	for _, c := range cases {
		r := mustReq(t, c.ask)
		next, code := impl.GameDo(g, r)
		if code != c.code {
			t.Errorf("%s: code %d, want %d", c.ask, code, c.code)
			continue
		}
		checkP4(t, next, r)
		checkP5(t, g, next, r, code)
	}
}

// How far apart figures may be, in each direction, to be hit and given to.
func TestP5Far(t *testing.T) {
	for x := range side {
		for y := range side {
			g := gameWith(impl.Ent{Client: 1, X: 1, Y: 1, Life: 3, Gold: 1}, impl.Ent{Client: 2, X: x, Y: y, Life: 3, Gold: 1})
			want := impl.CodeFar
			if x <= 2 && y <= 2 {
				want = impl.CodeFine
			}
			for _, ask := range []string{"1 1 hit 2 0", "2 1 hit 1 0", "1 1 give 2 1", "2 1 give 1 1"} {
				if _, code := impl.GameDo(g, mustReq(t, ask)); code != want {
					t.Errorf("%s with %d %d: code %d", ask, x, y, code)
				}
			}
		}
	}
}

// filled is the same numbers in a slice with room for more, in which every free place holds a mark.
func filled[T any](list []T, mark T) []T {
	all := make([]T, len(list)+5)
	for i := range all {
		all[i] = mark
	}
	copy(all, list)
	return all[:len(list)]
}

func overwrite[T any](list []T, mark T) {
	list = list[:cap(list)]
	for i := range list {
		list[i] = mark
	}
}

func TestP4NoSharedMemory(t *testing.T) {
	base := gameWith(impl.Ent{Client: 1, Life: 3, Gold: 1}, impl.Ent{Client: 3, X: 1, Life: 1, Gold: 2})
	base.Last[0] = 4
	asks := []string{
		"none", "1 4 take 0 0", "1 5 join 0 0", "2 1 take 0 0", "2 1 join 0 0", "4 1 join 0 0", "1 5 move -1 0", "1 5 move 1 1",
		"1 5 take 0 0", "1 5 hit 3 0", "3 1 hit 1 0", "1 5 hit 2 0", "1 5 give 3 1", "1 5 give 3 9",
	}
	for _, ask := range asks {
		mark := impl.Ent{Client: 77}
		g := impl.Game{Ents: filled(base.Ents, mark), Floor: filled(base.Floor, 77), Last: filled(base.Last, 77)}
		all := impl.Game{Ents: g.Ents[:cap(g.Ents)], Floor: g.Floor[:cap(g.Floor)], Last: g.Last[:cap(g.Last)]}
		before := cloneGame(all)
		got, _ := impl.GameDo(g, mustReq(t, ask))
		if !sameGame(all, before) {
			t.Errorf("%s changes its argument, or what lies behind it", ask)
		}
		checkApart(t, ask, got)
		overwrite(got.Ents, impl.Ent{Client: 88})
		overwrite(got.Floor, 88)
		overwrite(got.Last, 88)
		if !sameGame(all, before) {
			t.Errorf("%s: the result shares memory with the argument", ask)
		}
	}
}

// checkApart writes over one slice of a state, and looks whether another one changes.
func checkApart(t *testing.T, name string, g impl.Game) {
	t.Helper()
	floor, last := slices.Clone(g.Floor), slices.Clone(g.Last)
	overwrite(g.Floor, 55)
	if !slices.Equal(g.Last, last) {
		t.Errorf("%s: Last shares memory with Floor", name)
	}
	copy(g.Floor, floor)
	overwrite(g.Last, 66)
	if !slices.Equal(g.Floor, floor) {
		t.Errorf("%s: Floor shares memory with Last", name)
	}
	copy(g.Last, last)
}

func TestP6NoRequests(t *testing.T) {
	if !sameGame(impl.GameFold(nil), impl.GameNew()) || !sameGame(impl.GameFold([]impl.Req{}), impl.GameNew()) {
		t.Error("GameFold of no requests is not GameNew")
	}
}

// foldLists is lists of requests that are valid or null, old ones among them, of all lengths up to FoldMax.
func foldLists() [][]impl.Req {
	c := &chance{state: 11}
	var lists [][]impl.Req
	for n := 0; n <= folds; n++ {
		list := make([]impl.Req, 0, n)
		for i := range n {
			asks := asksOf(1+c.below(clients), min(numbers, 1+i/2+c.below(3)))
			r := asks[c.below(len(asks))]
			switch {
			case i < clients:
				r = impl.Req{Client: i + 1, Num: 1, Op: impl.OpJoin}
			case c.below(8) == 0:
				r = impl.Req{}
			}
			list = append(list, r)
		}
		lists = append(lists, list)
	}
	return lists
}

func TestP6EveryCut(t *testing.T) {
	for _, list := range foldLists() {
		kept := slices.Clone(list)
		m := modelOf(impl.GameNew())
		for _, r := range list {
			m.play(r)
		}
		all := impl.GameFold(list)
		if !sameGame(all, m.game()) || !slices.Equal(list, kept) {
			t.Fatalf("%d requests: %v, want %v", len(list), all, m.game())
		}
		for cut := range len(list) + 1 {
			g := impl.GameFold(list[:cut])
			for _, r := range list[cut:] {
				g, _ = impl.GameDo(g, r)
			}
			if !sameGame(g, all) {
				t.Fatalf("%d requests cut at %d: %v, want %v", len(list), cut, g, all)
			}
		}
	}
}

func TestP6InOrder(t *testing.T) {
	list := mustReqs(t, "1 1 join 0 0", "1 2 take 0 0", "1 3 move 1 0", "none", "1 4 take 0 0", "2 1 join 0 0", "1 5 give 2 2", "1 5 take 0 0")
	g := impl.GameFold(list)
	want := []impl.Ent{{Client: 1, X: 1, Life: 3}, {Client: 2, X: 1, Y: 1, Life: 3, Gold: 2}}
	if !slices.Equal(g.Ents, want) || g.Floor[0] != 1 || g.Floor[1] != 0 || !slices.Equal(g.Last, []int{5, 1, 0, 0}) {
		t.Error(g)
	}
	slices.Reverse(list)
	g = impl.GameFold(list)
	if !slices.Equal(g.Ents, []impl.Ent{{Client: 2, X: 1, Y: 1, Life: 3}}) || !slices.Equal(g.Last, []int{5, 1, 0, 0}) {
		t.Error("from behind", g)
	}
}

func TestP6FoldMax(t *testing.T) {
	most := make([]impl.Req, folds)
	if !sameGame(impl.GameFold(most), impl.GameNew()) {
		t.Error("GameFold of FoldMax null requests is not GameNew")
	}
	most[folds-1] = mustReq(t, "3 1 join 0 0")
	if g := impl.GameFold(most); len(g.Ents) != 1 || g.Last[2] != 1 {
		t.Error("the last one of FoldMax requests", g)
	}
	for _, n := range []int{folds + 1, folds + 2, 1000} {
		more := make([]impl.Req, n)
		if g := impl.GameFold(more); !isZeroGame(g) {
			t.Errorf("%d null requests: %v", n, g)
		}
		more[0] = mustReq(t, "3 1 join 0 0")
		if g := impl.GameFold(more); !isZeroGame(g) {
			t.Errorf("%d requests: %v", n, g)
		}
	}
}

func TestP6Invalid(t *testing.T) {
	list := mustReqs(t, "1 1 join 0 0", "none", "1 2 take 0 0", "1 2 take 0 0")
	for _, bad := range badAsks() {
		for at := range list {
			with := slices.Clone(list)
			with[at] = bad
			if g := impl.GameFold(with); !isZeroGame(g) {
				t.Errorf("%v at %d: %v", bad, at, g)
			}
		}
	}
}

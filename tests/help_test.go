package tests

import (
	"slices"
	"strconv"
	"testing"

	"loop.example/wapentake/impl"
)

// The limits as the document gives them: the tests must not follow a constant that is wrong in the program.
const (
	clients = 4
	numbers = 30
	side    = 4
	life    = 3
	gold    = 20
	folds   = 60
)

func mustReq(t *testing.T, s string) impl.Req {
	t.Helper()
	r, ok := impl.ReqGet(s)
	if !ok {
		t.Fatalf("ReqGet(%q) fails", s)
	}
	return r
}

func mustReqs(t *testing.T, texts ...string) []impl.Req {
	t.Helper()
	var list []impl.Req
	for _, s := range texts {
		list = append(list, mustReq(t, s))
	}
	return list
}

// opRange is what the document allows as X and Y of an operation.
type opRange struct {
	op, xLow, xHigh, yLow, yHigh int
	word                         string
}

func opRanges() []opRange {
	return []opRange{
		{op: 1, word: "join"},
		{op: 2, xLow: -1, xHigh: 1, yLow: -1, yHigh: 1, word: "move"},
		{op: 3, word: "take"},
		{op: 4, xLow: 1, xHigh: clients, word: "hit"},
		{op: 5, xLow: 1, xHigh: clients, yLow: 1, yHigh: 9, word: "give"},
	}
}

// asksOf is every valid request of a client with that number.
func asksOf(client, num int) []impl.Req {
	var list []impl.Req
	for _, o := range opRanges() {
		for x := o.xLow; x <= o.xHigh; x++ {
			for y := o.yLow; y <= o.yHigh; y++ {
				list = append(list, impl.Req{Client: client, Num: num, Op: o.op, X: x, Y: y})
			}
		}
	}
	return list
}

func allAsks() []impl.Req {
	var list []impl.Req
	for client := 1; client <= clients; client++ {
		for num := 1; num <= numbers; num++ {
			list = append(list, asksOf(client, num)...)
		}
	}
	return list
}

func textOf(r impl.Req) string {
	if r == (impl.Req{}) {
		return "none"
	}
	word := opRanges()[r.Op-1].word
	return strconv.Itoa(r.Client) + " " + strconv.Itoa(r.Num) + " " + word + " " + strconv.Itoa(r.X) + " " + strconv.Itoa(r.Y)
}

// nearTexts is every text that differs from s in one byte, one byte less or one byte more.
func nearTexts(s string) []string {
	var list []string
	for i := 0; i < len(s); i++ {
		list = append(list, s[:i]+s[i+1:])
		for b := 0; b < 256; b++ {
			if byte(b) != s[i] {
				list = append(list, s[:i]+string([]byte{byte(b)})+s[i+1:])
			}
		}
	}
	for i := 0; i <= len(s); i++ {
		for b := 0; b < 256; b++ {
			list = append(list, s[:i]+string([]byte{byte(b)})+s[i:])
		}
	}
	return list
}

// chance is a fixed sequence of numbers, the same in every run.
type chance struct{ state uint64 }

func (c *chance) below(n int) int {
	c.state = c.state*6364136223846793005 + 1442695040888963407
	return int(c.state>>33) % n
}

func sameGame(a, b impl.Game) bool {
	return slices.Equal(a.Ents, b.Ents) && slices.Equal(a.Floor, b.Floor) && slices.Equal(a.Last, b.Last)
}

func isZeroGame(g impl.Game) bool {
	return len(g.Ents) == 0 && len(g.Floor) == 0 && len(g.Last) == 0
}

func cloneGame(g impl.Game) impl.Game {
	return impl.Game{Ents: slices.Clone(g.Ents), Floor: slices.Clone(g.Floor), Last: slices.Clone(g.Last)}
}

func totalGold(g impl.Game) int {
	sum := 0
	for _, n := range g.Floor {
		sum += n
	}
	for _, e := range g.Ents {
		sum += e.Gold
	}
	return sum
}

// gameWith is a valid state with those figures; the gold that they do not have lies on square 0.
func gameWith(ents ...impl.Ent) impl.Game {
	g := impl.Game{Ents: ents, Floor: make([]int, side*side), Last: make([]int, clients)}
	g.Floor[0] = gold - totalGold(g)
	return g
}

// anyGame is a valid state, as play may never reach it: figures anywhere, also without life.
func anyGame(c *chance) impl.Game {
	g := impl.Game{Floor: make([]int, side*side), Last: make([]int, clients)}
	reach := 2 + c.below(side-1)
	for client := 1; client <= clients; client++ {
		g.Last[client-1] = c.below(numbers + 1)
		if c.below(4) > 0 {
			g.Ents = append(g.Ents, impl.Ent{Client: client, X: c.below(reach), Y: c.below(reach), Life: c.below(life + 1)})
		}
	}
	for range gold {
		if at := c.below(side*side + 2*len(g.Ents)); at < side*side {
			g.Floor[at]++
		} else {
			g.Ents[(at-side*side)/2].Gold++
		}
	}
	return g
}

// playedGames is every state of a game that is played until no client has a number left.
func playedGames(c *chance) []impl.Game {
	g := impl.GameNew()
	list := []impl.Game{g}
	for num := 1; num <= numbers; num++ {
		for client := 1; client <= clients; client++ {
			asks := asksOf(client, num)
			r := asks[c.below(len(asks))]
			if num == 1 {
				r = asks[0]
			}
			g, _ = impl.GameDo(g, r)
			list = append(list, g)
		}
	}
	return list
}

func someGames() []impl.Game {
	c := &chance{state: 7}
	list := append(playedGames(c), playedGames(c)...)
	for range 250 {
		list = append(list, anyGame(c))
	}
	rich := gameWith(impl.Ent{Client: 2, X: 3, Y: 3, Life: 3, Gold: gold})
	poor := gameWith(impl.Ent{Client: 1}, impl.Ent{Client: 4, X: 1, Y: 1})
	late := gameWith()
	late.Last = []int{numbers, numbers, numbers, numbers}
	return append(list, rich, poor, late)
}

type namedGame struct {
	name string
	game impl.Game
}

// badGames is states that each break one rule of GameOk.
func badGames() []namedGame {
	base := gameWith(impl.Ent{Client: 1, Life: 3, Gold: 2}, impl.Ent{Client: 2, X: 1, Y: 1, Life: 1, Gold: 3})
	list := []namedGame{{name: "zero"}}
	add := func(name string, change func(g *impl.Game)) {
		g := cloneGame(base)
		change(&g)
		list = append(list, namedGame{name: name, game: g})
	}
	add("client 0", func(g *impl.Game) { g.Ents[0].Client = 0 })
	add("client -1", func(g *impl.Game) { g.Ents[0].Client = -1 })
	add("client 5", func(g *impl.Game) { g.Ents[1].Client = clients + 1 })
	add("client twice", func(g *impl.Game) { g.Ents[1].Client = 1 })
	add("clients descend", func(g *impl.Game) { g.Ents[0], g.Ents[1] = g.Ents[1], g.Ents[0] })
	add("X -1", func(g *impl.Game) { g.Ents[0].X = -1 })
	add("X 4", func(g *impl.Game) { g.Ents[0].X = side })
	add("Y -1", func(g *impl.Game) { g.Ents[1].Y = -1 })
	add("Y 4", func(g *impl.Game) { g.Ents[1].Y = side })
	add("life -1", func(g *impl.Game) { g.Ents[0].Life = -1 })
	add("life 4", func(g *impl.Game) { g.Ents[1].Life = life + 1 })
	add("gold of a figure -1", func(g *impl.Game) { g.Ents[0].Gold = -1; g.Floor[0] += 3 })
	add("gold of a figure 21", func(g *impl.Game) { g.Ents[0].Gold = 21; g.Ents[1].Gold = -1; g.Floor[0] = 0 })
	add("floor -1", func(g *impl.Game) { g.Floor[3] = -1; g.Floor[0]++ })
	add("floor 21", func(g *impl.Game) { *g = gameWith(); g.Floor[0] = 21; g.Floor[15] = -1 })
	add("no floor", func(g *impl.Game) { g.Floor = nil; g.Ents[0].Gold = 17 })
	add("floor short", func(g *impl.Game) { g.Floor = g.Floor[:15] })
	add("floor long", func(g *impl.Game) { g.Floor = append(g.Floor, 0) })
	add("no last", func(g *impl.Game) { g.Last = nil })
	add("last short", func(g *impl.Game) { g.Last = g.Last[:3] })
	add("last long", func(g *impl.Game) { g.Last = append(g.Last, 0) })
	add("last -1", func(g *impl.Game) { g.Last[0] = -1 })
	add("last 31", func(g *impl.Game) { g.Last[3] = numbers + 1 })
	add("gold 19", func(g *impl.Game) { g.Floor[0]-- })
	add("gold 21", func(g *impl.Game) { g.Floor[5]++ })
	add("gold 21 with a figure's", func(g *impl.Game) { g.Ents[1].Gold++ })
	add("gold that wraps around", func(g *impl.Game) { g.Floor[1], g.Floor[2], g.Floor[3] = 1<<62, 1<<62, -1<<63 })
	return list
}

// badAsks is requests that are neither valid nor null.
func badAsks() []impl.Req {
	return []impl.Req{
		{Client: 0, Num: 1, Op: 1}, {Client: -1, Num: 1, Op: 1}, {Client: 5, Num: 1, Op: 1},
		{Client: 1, Num: 0, Op: 1}, {Client: 1, Num: -1, Op: 1}, {Client: 1, Num: 31, Op: 1},
		{Client: 1, Num: 1, Op: 0}, {Client: 1, Num: 1, Op: -1}, {Client: 1, Num: 1, Op: 6},
		{Client: 1, Num: 1, Op: 1, X: 1}, {Client: 1, Num: 1, Op: 1, Y: 1}, {Client: 1, Num: 1, Op: 1, X: -1},
		{Client: 1, Num: 1, Op: 2, X: -2}, {Client: 1, Num: 1, Op: 2, X: 2},
		{Client: 1, Num: 1, Op: 2, Y: -2}, {Client: 1, Num: 1, Op: 2, Y: 2},
		{Client: 1, Num: 1, Op: 3, X: 1}, {Client: 1, Num: 1, Op: 3, Y: 1}, {Client: 1, Num: 1, Op: 3, Y: -1},
		{Client: 1, Num: 1, Op: 4, X: 0}, {Client: 1, Num: 1, Op: 4, X: 5}, {Client: 1, Num: 1, Op: 4, X: 1, Y: 1},
		{Client: 1, Num: 1, Op: 5, X: 0, Y: 1}, {Client: 1, Num: 1, Op: 5, X: 5, Y: 1},
		{Client: 1, Num: 1, Op: 5, X: 2, Y: 0}, {Client: 1, Num: 1, Op: 5, X: 2, Y: 10}, {Client: 1, Num: 1, Op: 5, X: 2, Y: -1},
		{Client: 1}, {Num: 1}, {Op: 1}, {X: 1}, {Y: 1},
	}
}

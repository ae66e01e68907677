package impl

import (
	"cmp"
	"slices"
	"strconv"
	"strings"
)

// How an ask went, and limits of a game.
const (
	CodeFine  = 0
	CodeForm  = 1
	CodeNone  = 2
	CodeOld   = 3
	CodeThere = 4
	CodeOff   = 5
	CodeEdge  = 6
	CodePoor  = 7
	CodeFar   = 8
	Side      = 4
	LifeMax   = 3
	GoldAll   = 20
	FoldMax   = 60
)

// Ent is a player's figure: where it is, its life, and its gold.
type Ent struct {
	Client int
	X      int
	Y      int
	Life   int
	Gold   int
}

// Game is figures, gold on the floor, row by row, and the number of each player's last ask.
type Game struct {
	Ents  []Ent
	Floor []int
	Last  []int
}

// GameOk says whether a game is ok.
func GameOk(g Game) bool {
	if len(g.Floor) != Side*Side || len(g.Last) != ClientMax || !entsOk(g.Ents) {
		return false
	}
	return allWithin(g.Floor, GoldAll) && allWithin(g.Last, NumMax) && goldOfEnts(g.Ents)+goldOfFloor(g.Floor) == GoldAll
}

func entsOk(ents []Ent) bool {
	before := 0
	for _, e := range ents {
		if e.Client <= before || e.Client > ClientMax || !onBoard(e.X, e.Y) {
			return false
		}
		if !within(e.Life, 0, LifeMax) || !within(e.Gold, 0, GoldAll) {
			return false
		}
		before = e.Client
	}
	return true
}

func allWithin(list []int, high int) bool {
	for _, n := range list {
		if !within(n, 0, high) {
			return false
		}
	}
	return true
}

func onBoard(x int, y int) bool {
	return within(x, 0, Side-1) && within(y, 0, Side-1)
}

func goldOfEnts(ents []Ent) int {
	sum := 0
	for _, e := range ents {
		sum += e.Gold
	}
	return sum
}

func goldOfFloor(floor []int) int {
	sum := 0
	for _, n := range floor {
		sum += n
	}
	return sum
}

// GameNew is a new game.
func GameNew() Game {
	floor := make([]int, Side*Side)
	for i := range GoldAll {
		floor[5*i%len(floor)]++
	}
	return Game{Floor: floor, Last: make([]int, ClientMax)}
}

func copyGame(g Game) Game {
	return Game{
		Ents:  append([]Ent(nil), g.Ents...),
		Floor: append([]int(nil), g.Floor...),
		Last:  append([]int(nil), g.Last...),
	}
}

// GameDo is a game behind an ask, and how it went.
func GameDo(g Game, r Req) (Game, int) {
	if !GameOk(g) || !okOrNull(r) {
		return Game{}, CodeForm
	}
	next := copyGame(g)
	if isNull(r) {
		return next, CodeNone
	}
	if r.Num <= next.Last[r.Client-1] {
		return next, CodeOld
	}
	next.Last[r.Client-1] = r.Num
	code := perform(&next, r)
	return next, code
}

// perform checks everything before it changes anything, so that a failed request leaves figures and floor as they were.
func perform(g *Game, r Req) int {
	if r.Op == OpJoin {
		return join(g, r.Client)
	}
	f, ok := figureOf(g, r.Client)
	if !ok {
		return CodeOff
	}
	acts := map[int]func(figure, Req) int{
		OpMove: figure.move,
		OpTake: figure.take,
		OpHit:  figure.hit,
		OpGive: figure.give,
	}
	return acts[r.Op](f, r)
}

func placeOf(ents []Ent, client int) (int, bool) {
	return slices.BinarySearchFunc(ents, client, func(e Ent, c int) int {
		return cmp.Compare(e.Client, c)
	})
}

func join(g *Game, client int) int {
	at, there := placeOf(g.Ents, client)
	if there {
		return CodeThere
	}
	g.Ents = slices.Insert(g.Ents, at, Ent{Client: client, X: client - 1, Y: client - 1, Life: LifeMax})
	return CodeFine
}

// figure is a figure on the board of a game; it holds until a figure is placed or removed.
type figure struct {
	game *Game
	at   int
}

func figureOf(g *Game, client int) (figure, bool) {
	at, ok := placeOf(g.Ents, client)
	return figure{game: g, at: at}, ok
}

func (f figure) ent() *Ent {
	return &f.game.Ents[f.at]
}

// ground is the gold that lies where the figure stands.
func (f figure) ground() *int {
	e := f.ent()
	return &f.game.Floor[e.Y*Side+e.X]
}

// other is the figure of another client, if it is near enough to be hit or given to.
func (f figure) other(client int) (figure, bool) {
	o, ok := figureOf(f.game, client)
	if !ok || o.at == f.at {
		return figure{}, false
	}
	a, b := f.ent(), o.ent()
	return o, within(a.X-b.X, -1, 1) && within(a.Y-b.Y, -1, 1)
}

func (f figure) remove() {
	*f.ground() += f.ent().Gold
	f.game.Ents = slices.Delete(f.game.Ents, f.at, f.at+1)
}

func (f figure) move(r Req) int {
	e := f.ent()
	x, y := e.X+r.X, e.Y+r.Y
	if !onBoard(x, y) {
		return CodeEdge
	}
	e.X, e.Y = x, y
	return CodeFine
}

func (f figure) take(Req) int {
	ground := f.ground()
	if *ground == 0 {
		return CodePoor
	}
	*ground--
	f.ent().Gold++
	return CodeFine
}

func (f figure) hit(r Req) int {
	o, ok := f.other(r.X)
	if !ok {
		return CodeFar
	}
	o.ent().Life--
	// A valid state may hold a figure without life, which a hit takes below 0.
	if o.ent().Life <= 0 {
		o.remove()
	}
	return CodeFine
}

func (f figure) give(r Req) int {
	o, ok := f.other(r.X)
	if !ok {
		return CodeFar
	}
	if f.ent().Gold < r.Y {
		return CodePoor
	}
	f.ent().Gold -= r.Y
	o.ent().Gold += r.Y
	return CodeFine
}

// GameFold is a new game behind asks.
func GameFold(list []Req) Game {
	if len(list) > FoldMax {
		return Game{}
	}
	g := GameNew()
	for _, r := range list {
		next, code := GameDo(g, r)
		if code == CodeForm {
			return Game{}
		}
		g = next
	}
	return g
}

// GamePut writes a game.
func GamePut(g Game) string {
	if !GameOk(g) {
		return ""
	}
	var b strings.Builder
	writeRow(&b, g.Floor)
	b.WriteByte('/')
	writeRow(&b, g.Last)
	for _, e := range g.Ents {
		b.WriteByte('/')
		b.WriteString(entText(e))
	}
	return b.String()
}

func writeRow(b *strings.Builder, list []int) {
	for _, n := range list {
		b.WriteString(strconv.Itoa(n))
		b.WriteByte(',')
	}
}

func entText(e Ent) string {
	words := []string{
		strconv.Itoa(e.Client), strconv.Itoa(e.X), strconv.Itoa(e.Y), strconv.Itoa(e.Life), strconv.Itoa(e.Gold),
	}
	return strings.Join(words, ",")
}

// GameGet reads a game.
func GameGet(s string) (Game, bool) {
	parts := strings.Split(s, "/")
	if len(parts) < 2 {
		return Game{}, false
	}
	floor, readFloor := readRow(parts[0])
	last, readLast := readRow(parts[1])
	ents, readAll := readEnts(parts[2:])
	g := Game{Ents: ents, Floor: floor, Last: last}
	// Other texts can be read as the same state; only the one that GamePut writes is its encoding.
	if !readFloor || !readLast || !readAll || GamePut(g) != s {
		return Game{}, false
	}
	return g, true
}

func readRow(s string) ([]int, bool) {
	row, ok := strings.CutSuffix(s, ",")
	if !ok {
		return nil, false
	}
	return readNumbers(strings.Split(row, ","))
}

func readEnts(parts []string) ([]Ent, bool) {
	var ents []Ent
	for _, p := range parts {
		n, ok := readNumbers(strings.Split(p, ","))
		if !ok || len(n) != 5 {
			return nil, false
		}
		ents = append(ents, Ent{Client: n[0], X: n[1], Y: n[2], Life: n[3], Gold: n[4]})
	}
	return ents, true
}

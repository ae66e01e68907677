package tests

import (
	"sort"

	"loop.example/wapentake/impl"
)

// model is the chapter's rules told a second time, plainly, as something to hold the program against.
type model struct {
	figures map[int]impl.Ent
	floor   [side][side]int
	last    map[int]int
}

func modelOf(g impl.Game) *model {
	m := &model{figures: map[int]impl.Ent{}, last: map[int]int{}}
	for _, e := range g.Ents {
		m.figures[e.Client] = e
	}
	for i, n := range g.Floor {
		m.floor[i/side][i%side] = n
	}
	for i, n := range g.Last {
		m.last[i+1] = n
	}
	return m
}

func (m *model) game() impl.Game {
	g := impl.Game{}
	for _, e := range m.figures {
		g.Ents = append(g.Ents, e)
	}
	sort.Slice(g.Ents, func(i, j int) bool { return g.Ents[i].Client < g.Ents[j].Client })
	for y := range side {
		g.Floor = append(g.Floor, m.floor[y][:]...)
	}
	for client := 1; client <= clients; client++ {
		g.Last = append(g.Last, m.last[client])
	}
	return g
}

// play takes a request that is valid or null.
func (m *model) play(r impl.Req) int {
	if r == (impl.Req{}) {
		return 2
	}
	if m.last[r.Client] >= r.Num {
		return 3
	}
	m.last[r.Client] = r.Num
	me, here := m.figures[r.Client]
	if r.Op == 1 {
		if here {
			return 4
		}
		m.figures[r.Client] = impl.Ent{Client: r.Client, X: r.Client - 1, Y: r.Client - 1, Life: 3}
		return 0
	}
	if !here {
		return 5
	}
	switch r.Op {
	case 2:
		return m.move(me, r)
	case 3:
		return m.take(me)
	}
	you, there := m.figures[r.X]
	if !there || r.X == r.Client || apart(me.X, you.X) > 1 || apart(me.Y, you.Y) > 1 {
		return 8
	}
	if r.Op == 4 {
		m.hit(you)
		return 0
	}
	return m.give(me, you, r.Y)
}

func apart(a, b int) int {
	if a < b {
		return b - a
	}
	return a - b
}

func (m *model) move(me impl.Ent, r impl.Req) int {
	me.X += r.X
	me.Y += r.Y
	if me.X < 0 || me.X > 3 || me.Y < 0 || me.Y > 3 {
		return 6
	}
	m.figures[me.Client] = me
	return 0
}

func (m *model) take(me impl.Ent) int {
	if m.floor[me.Y][me.X] < 1 {
		return 7
	}
	m.floor[me.Y][me.X]--
	me.Gold++
	m.figures[me.Client] = me
	return 0
}

func (m *model) hit(you impl.Ent) {
	if you.Life > 1 {
		you.Life--
		m.figures[you.Client] = you
		return
	}
	m.floor[you.Y][you.X] += you.Gold
	delete(m.figures, you.Client)
}

func (m *model) give(me, you impl.Ent, n int) int {
	if me.Gold < n {
		return 7
	}
	me.Gold -= n
	you.Gold += n
	m.figures[me.Client], m.figures[you.Client] = me, you
	return 0
}

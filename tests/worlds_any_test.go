package tests

import (
	"fmt"
	"testing"

	"loop.example/wapentake/impl"
)

// plot is a run in which chance decides what happens next, and Bad says what may part the others.
type plot struct {
	c     *chance
	w     impl.World
	list  []impl.Event
	heard map[[2]int]bool
	seen  map[string]int
}

func newPlot(c *chance, bad int, seen map[string]int) *plot {
	p := &plot{c: c, w: impl.WorldNew(bad), heard: map[[2]int]bool{}, seen: seen}
	for client := 1; client <= 1+c.below(3); client++ {
		p.event(askEvent(joinOf(client)))
	}
	return p
}

func (p *plot) event(e impl.Event) {
	p.list = append(p.list, e)
	w, ok := impl.WorldDo(p.w, e)
	if !ok {
		p.seen[fmt.Sprint("not possible: ", e.Kind)]++
		return
	}
	p.seen[fmt.Sprint("done: ", e.Kind)]++
	for _, m := range w.Said[len(p.w.Said):] {
		p.seen[fmt.Sprint("sent ", m.Kind, " by a correct one is ", m.From != p.w.Bad)]++
	}
	if e.Kind == 2 {
		p.note(w, e)
	}
	p.w = w
}

// note counts what a message did to a replica.
func (p *plot) note(w impl.World, e impl.Event) {
	p.heard[[2]int{e.At, e.To}] = true
	before, after, m := p.w.Reps[e.To], w.Reps[e.To], p.w.Said[e.At]
	if m.Kind == 6 && m.From == p.w.Bad && after.Live && (after.View > before.View || !before.Live) {
		p.seen["Bad leads"]++
	}
	if n := len(after.Done); n > len(before.Done) {
		p.seen[fmt.Sprint("done in a later view is ", after.View > 0)]++
	}
}

func (p *plot) step() {
	to := p.c.below(keepers)
	switch n := p.c.below(100); {
	case n < 16:
		p.event(fakeEvent(p.fake()))
	case n < 20:
		p.turnSome(to)
	case n < 22:
		p.event(askEvent(joinOf(1 + p.c.below(4))))
	case n < 26:
		p.event(hearEvent(p.c.below(len(p.w.Said)+1), to))
	default:
		p.hearNew(to)
	}
}

// turnSome has one replica or several go to the next view, since one alone changes little.
func (p *plot) turnSome(first int) {
	for i := range 1 + p.c.below(keepers) {
		k := (first + i) % keepers
		if k != p.w.Bad && p.w.Reps[k].View < 3 {
			p.event(turnEvent(k))
		}
	}
}

// hearNew has the replica receive one of the messages that it has not received: mostly an early one, or one of the last.
func (p *plot) hearNew(to int) {
	n := len(p.w.Said)
	for range 40 {
		at := min(p.c.below(n), p.c.below(n))
		if p.c.below(2) == 0 {
			at = n - 1 - p.c.below(min(n, 8))
		}
		if !p.heard[[2]int{at, to}] && to != p.w.Bad {
			p.event(hearEvent(at, to))
			return
		}
	}
}

// someClaim is a claim about which something was said, or one near it.
func (p *plot) someClaim() impl.Claim {
	x := claim(1+p.c.below(2), p.c.below(3), joinOf(1+p.c.below(2)))
	for range 6 {
		if m := p.w.Said[p.c.below(len(p.w.Said))]; m.Kind >= 2 && m.Kind <= 4 {
			x = claim(m.Seq, m.View, m.Req)
			break
		}
	}
	switch p.c.below(8) {
	case 0:
		x.Req = joinOf(1 + p.c.below(2))
	case 1:
		x.View = min(lastView, x.View+1)
	}
	return x
}

// ownView is a view that Bad leads, the first of them mostly.
func (p *plot) ownView() int {
	if p.w.Bad < 3 && p.c.below(6) == 0 {
		return p.w.Bad + keepers
	}
	return p.w.Bad
}

func (p *plot) fake() impl.Msg {
	view := p.ownView()
	if p.c.below(6) == 0 {
		view = p.c.below(3) // It may not lead that one.
	}
	switch n := p.c.below(10); {
	case n < 3:
		return offer(claim(1+p.c.below(2), view, joinOf(1+p.c.below(3))))
	case n < 6:
		return about(3+p.c.below(2), p.w.Bad, p.someClaim())
	case n < 8 && p.turned(view) >= quorum-1:
		return leadOf(p.w.Bad, view, p.votes(view)...)
	case n < 9:
		return turnOf(1+p.c.below(3), p.ownVote())
	}
	return turnOf(view, p.ownVote())
}

// turned is how many messages of correct replicas could make Bad lead the view.
func (p *plot) turned(view int) int {
	n := 0
	for _, m := range p.w.Said {
		if m.Kind == 5 && m.View == view && m.From != p.w.Bad {
			n++
		}
	}
	return n
}

// ownVote has at most two claims, prepared or not.
func (p *plot) ownVote() impl.Vote {
	v := vote(p.w.Bad)
	for seq := 1; seq <= 2; seq++ {
		if x := p.someClaim(); x.Seq == seq && p.c.below(3) == 0 {
			v.Claims = append(v.Claims, x)
		}
	}
	return v
}

// votes is for each replica but one a message that it sent for the view, or something else.
func (p *plot) votes(view int) []impl.Vote {
	var votes []impl.Vote
	out := p.c.below(keepers + 1)
	for k := range keepers {
		var some []impl.Vote
		for _, m := range p.w.Said {
			if m.Kind == 5 && m.View == view && m.From == k {
				some = append(some, vote(k, m.Claims...))
			}
		}
		switch {
		case k == out:
		case len(some) > 0 && p.c.below(20) > 0:
			votes = append(votes, some[p.c.below(len(some))])
		default:
			v := p.ownVote()
			v.From = k
			votes = append(votes, v)
		}
	}
	return votes
}

// TestP23AnyPlot has many runs of PlayMax events; all that holds after WorldPlay and after WorldCalm is looked at.
func TestP23AnyPlot(t *testing.T) {
	c := &chance{state: 23}
	seen := map[string]int{}
	for i := range 400 {
		p := newPlot(c, i%keepers, seen)
		for len(p.list) < playMax {
			p.step()
		}
		p.list = p.list[:playMax]
		w := impl.WorldPlay(p.w.Bad, p.list)
		checkPlayed(t, w)
		after := impl.WorldCalm(w, calmMax)
		checkP23(t, after)
		checkP30(t, after)
		if i%20 == 0 {
			mustBeWorld(t, "WorldPlay", played(t, p.w.Bad, p.list), w)
			checkP29(t, w)
		}
		for k := range keepers {
			after.Reps[k] = impl.RepNew(k)
			if !impl.WorldAgree(after) {
				t.Fatalf("replica %d is new: WorldAgree does not hold: %v", k, after)
			}
		}
	}
	for _, name := range []string{"done: 1", "done: 2", "done: 3", "done: 4", "not possible: 1", "not possible: 2", "not possible: 4", "Bad leads", "done in a later view is true", "done in a later view is false"} {
		if seen[name] < 40 {
			t.Errorf("%s: only %d times", name, seen[name])
		}
	}
	for kind := 2; kind <= kindMax; kind++ {
		if name := fmt.Sprint("sent ", kind, " by a correct one is true"); seen[name] < 40 {
			t.Errorf("%s: only %d times", name, seen[name])
		}
	}
}

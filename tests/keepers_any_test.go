package tests

import (
	"fmt"
	"slices"
	"testing"

	"loop.example/wapentake/impl"
)

// table is four replicas, one of which may say anything, and all that was sent.
type table struct {
	bad  int
	reps []impl.Rep
	said []impl.Msg
	seen map[string]int
}

func newTable(bad int, seen map[string]int) *table {
	w := &table{bad: bad, seen: seen}
	for me := range keepers {
		w.reps = append(w.reps, impl.RepNew(me))
	}
	return w
}

func (w *table) say(list ...impl.Msg) {
	for _, m := range list {
		if !modelHas(w.said, m) {
			w.said = append(w.said, m)
		}
	}
}

func (w *table) put(t *testing.T, me int, r impl.Rep, sent []impl.Msg) {
	t.Helper()
	if !impl.RepOk(r) {
		t.Fatalf("replica %d becomes %v, which is not valid", me, r)
	}
	mustList(t, r, modelRepList(r))
	if len(r.Done) > len(w.reps[me].Done) {
		w.seen["done"]++
	}
	for _, m := range sent {
		w.seen[fmt.Sprint("sent ", m.Kind)]++
		if m.View > 0 && m.Kind <= 4 {
			w.seen["sent in a later view"]++
		}
	}
	w.reps[me] = r
	w.say(sent...)
}

func (w *table) hear(t *testing.T, me int, m impl.Msg) {
	t.Helper()
	r, sent := hear(t, w.reps[me], m, w.said)
	w.put(t, me, r, sent)
}

func (w *table) turn(t *testing.T, me int) {
	t.Helper()
	r, sent := turn(t, w.reps[me], w.said)
	w.put(t, me, r, sent)
}

// fewClaim is one of few claims, so that messages about the same one come together.
func fewClaim(c *chance) impl.Claim {
	r := impl.Req{}
	if client := c.below(3); client > 0 {
		r = joinOf(client)
	}
	return claim(1+c.below(2), c.below(2)*c.below(3), r)
}

// fake is a valid message of the bad replica: one that fits what was sent, or any.
func (w *table) fake(c *chance) impl.Msg {
	x := fewClaim(c)
	kind := 2 + c.below(5)
	if kind == 2 && (x.Req == impl.Req{}) {
		kind = 3
	}
	switch kind {
	case 5:
		var claims []impl.Claim
		if impl.ClaimReady(w.said, x) || c.below(4) == 0 {
			claims = append(claims, x)
		}
		return turnOf(1+c.below(3), vote(w.bad, claims...))
	case 6:
		return leadOf(w.bad, []int{w.bad, w.bad, c.below(lastView)}[c.below(3)], w.votes(c, w.bad)...)
	}
	return about(kind, w.bad, x)
}

// votes is what was sent for the view, of one replica or another.
func (w *table) votes(c *chance, view int) []impl.Vote {
	var votes []impl.Vote
	out := c.below(keepers + 1)
	for k := range keepers {
		for _, m := range w.said {
			if m.Kind == 5 && m.View == view && m.From == k && k != out {
				votes = append(votes, vote(k, m.Claims...))
				break
			}
		}
	}
	return votes
}

func (w *table) step(t *testing.T, c *chance) {
	t.Helper()
	me := c.below(keepers)
	switch n := c.below(40); {
	case n < 2:
		w.say(askOf(joinOf(1 + c.below(3))))
	case n < 6:
		w.say(w.fake(c))
	case me == w.bad:
	case n == 6:
		w.turn(t, me)
	case n == 7:
		w.hear(t, me, about(3, me, fewClaim(c)))
	case len(w.said) > 0:
		w.hear(t, me, w.said[c.below(len(w.said))])
	}
}

func TestP16AnyPlay(t *testing.T) {
	c := &chance{state: 16}
	seen := map[string]int{}
	for i := range 60 {
		w := newTable(i%keepers, seen)
		w.say(askOf(joinOf(1)), askOf(joinOf(2)))
		for range 150 {
			w.step(t, c)
		}
		for me := range keepers {
			for i := 0; me != w.bad && i < len(w.said); i++ {
				w.hear(t, me, w.said[i])
			}
		}
	}
	for _, name := range []string{"done", "sent 2", "sent 3", "sent 4", "sent 5", "sent 6", "sent in a later view"} {
		if seen[name] < 20 {
			t.Errorf("%s: only %d times", name, seen[name])
		}
	}
}

// anyRep is a valid replica, as play may never reach it, and messages about its claims, some of which were sent.
func anyRep(c *chance) (impl.Rep, []impl.Msg) {
	r := impl.Rep{Me: c.below(keepers), View: c.below(4), Live: c.below(3) > 0, Next: 1 + c.below(lastSeq+1)}
	said := asksFrom(joinOf(1), joinOf(2))
	for range 1 + c.below(5) {
		x := claim(1+c.below(3), c.below(4), impl.Req{})
		if client := c.below(4); client > 0 {
			x.Req = joinOf(client)
		}
		if len(r.Took) == 0 || !modelRepOk(took(r, x)) || c.below(2) == 0 {
			said = append(said, readySaid(x)...)
		}
		if modelRepOk(took(r, x)) {
			r = took(r, x)
		}
		for k := range keepers {
			for kind := 3; kind <= 4; kind++ {
				if c.below(2) == 0 {
					r.Heard = append(r.Heard, about(kind, k, x))
				}
			}
		}
	}
	return r, said
}

// anyTurns is what replicas may send when they turn to the view with some of these claims.
func anyTurns(c *chance, view int, claims []impl.Claim) []impl.Msg {
	var list []impl.Msg
	for range 4 {
		var some []impl.Claim
		for _, x := range claims {
			if c.below(3) == 0 && (len(some) == 0 || some[len(some)-1].Seq < x.Seq) && (x.View < view || c.below(8) == 0) {
				some = append(some, x)
			}
		}
		list = append(list, turnOf(view, vote(c.below(keepers), some...)))
	}
	return list
}

// anyMsg is a message that the replica could hear next.
func anyMsg(c *chance, r impl.Rep, turns []impl.Msg) impl.Msg {
	x := claim(1+c.below(3), c.below(2)*r.View+c.below(3), joinOf(1+c.below(3)))
	if c.below(2) == 0 {
		x = r.Took[c.below(len(r.Took))]
	}
	switch kind := 1 + c.below(6); {
	case kind == 1:
		return askOf(joinOf(1 + c.below(3)))
	case kind == 2 && x.Req != impl.Req{}:
		return about(2, []int{x.View % keepers, x.View % keepers, c.below(keepers)}[c.below(3)], x)
	case kind == 5:
		return turns[c.below(len(turns))]
	case kind == 6:
		var votes []impl.Vote
		for _, m := range turns {
			if !slices.ContainsFunc(votes, func(v impl.Vote) bool { return v.From >= m.From }) {
				votes = append(votes, vote(m.From, m.Claims...))
			}
		}
		return leadOf(turns[0].View%keepers, turns[0].View, votes...)
	}
	return about(3+c.below(2), c.below(keepers), x)
}

func TestP17AnyReplica(t *testing.T) {
	c := &chance{state: 17}
	seen := map[string]int{}
	for range 4000 {
		r, said := anyRep(c)
		turns := anyTurns(c, min(lastView, 1+r.View+c.below(2)), r.Took)
		slices.SortFunc(turns, func(a, b impl.Msg) int { return a.From - b.From })
		r.Heard = append(r.Heard, turns[:c.below(4)]...)
		if c.below(2) == 0 {
			slices.Reverse(r.Heard)
		}
		m := anyMsg(c, r, turns)
		said = append(said, turns[c.below(2):]...)
		if c.below(10) > 0 {
			said = append(said, m)
		}
		got, sent := hear(t, r, m, said)
		if !sameRep(got, r) {
			seen[fmt.Sprint("changed by ", m.Kind)]++
		} else {
			seen[fmt.Sprint("not changed by ", m.Kind)]++
		}
		_, more := turn(t, r, said)
		for _, s := range append(sent, more...) {
			seen[fmt.Sprint("sent ", s.Kind)]++
		}
	}
	for kind := 1; kind <= kindMax; kind++ {
		if seen[fmt.Sprint("changed by ", kind)] < 20 || seen[fmt.Sprint("not changed by ", kind)] < 20 {
			t.Errorf("kind %d: %v", kind, seen)
		}
		if kind > 1 && seen[fmt.Sprint("sent ", kind)] < 20 {
			t.Errorf("kind %d is not sent: %v", kind, seen)
		}
	}
}

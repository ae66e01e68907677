package tests

import (
	"fmt"
	"slices"
	"testing"

	"loop.example/wapentake/impl"
)

// The worlds of these tests are valid, and play cannot reach them: a replica takes a second claim for one place, and is invalid then. It is the zero Rep when it receives the next message; the others receive everything all the same.

// mustCalm has each number of rounds make the same world, in which some replica is not valid.
func mustCalm(t *testing.T, name string, w, want impl.World) {
	t.Helper()
	if !impl.WorldOk(w) {
		t.Fatalf("%s: not valid at first: %v", name, w)
	}
	mustBeWorld(t, name+": no rounds", calm(t, w, 0), w)
	for n := 1; n <= calmMax; n++ {
		got := calm(t, w, n)
		mustBeWorld(t, fmt.Sprint(name, ": rounds ", n), got, want)
		mustBeInvalid(t, name, got)
	}
}

// mustBeInvalid shows that an invalid world that WorldCalm returns is an invalid argument as any other.
func mustBeInvalid(t *testing.T, name string, w impl.World) {
	t.Helper()
	if impl.WorldOk(w) || impl.WorldAgree(w) {
		t.Fatalf("%s: WorldOk is %v and WorldAgree %v", name, impl.WorldOk(w), impl.WorldAgree(w))
	}
	for n := range calmMax + 1 {
		mustBeZeroWorld(t, name+": WorldCalm of it", calm(t, w, n))
	}
}

func TestP29BrokenByAsk(t *testing.T) {
	a, b := claim(1, 0, joinOf(1)), claim(1, 0, joinOf(2))
	for bad := 1; bad < keepers; bad++ {
		others := slices.DeleteFunc([]int{1, 2, 3}, func(k int) bool { return k == bad })
		k, l := others[0], others[1]
		w := worldWith(bad, asksFrom(joinOf(2), joinOf(3))...)
		w.Reps[0].Took = []impl.Claim{a}
		want := worldWith(bad, msgs(w.Said, []impl.Msg{offer(b)}, yesFrom(b, k, l), sureFrom(b, l, k))...)
		want.Reps[0] = impl.Rep{}
		want.Reps[k] = took(repIn(k, 0), b, msgs(yesFrom(b, k, l), sureFrom(b, k, l))...)
		want.Reps[l] = took(repIn(l, 0), b, msgs(yesFrom(b, l, k), sureFrom(b, l, k))...)
		mustCalm(t, fmt.Sprint("Bad is ", bad), w, want)
	}
}

// turnsToOne is good messages for view 1, to which a request is taken over.
func turnsToOne() certificate {
	return certify(1, vote(0, claim(1, 0, joinOf(1))), vote(1), vote(2))
}

// entered is a replica that took the request in view 1, when all is heard that was sent before that.
func entered(me int, later []impl.Msg) impl.Rep {
	heard := slices.DeleteFunc(turnsToOne().said, func(m impl.Msg) bool { return m.Kind == 2 })
	r := took(repIn(me, 1), claim(1, 1, joinOf(1)), msgs(heard, later)...)
	r.Next = 2
	return r
}

func TestP29BrokenByLead(t *testing.T) {
	c := claim(1, 1, joinOf(1))
	for _, me := range []int{0, 2} {
		other := 2 - me
		w := worldWith(3, leadSaidAgain()...)
		w.Reps[me].Took = []impl.Claim{c}
		later := msgs(yesFrom(c, 0, 2), sureFrom(c, other, 1))
		want := worldWith(3, msgs(w.Said, later)...)
		want.Reps[me] = impl.Rep{}
		want.Reps[1] = entered(1, msgs(yesFrom(c, 0, 2), sureFrom(c, 1, other)))
		want.Reps[other] = entered(other, msgs(yesFrom(c, other, me), sureFrom(c, other, 1)))
		mustCalm(t, fmt.Sprint("replica ", me), w, want)
	}
}

// TestP29BrokenByTurn has the leader of a view take again what is taken over into that view.
func TestP29BrokenByTurn(t *testing.T) {
	c, cert := claim(1, 1, joinOf(1)), turnsToOne()
	w := worldWith(3, cert.said...)
	w.Reps[1].Took = []impl.Claim{c}
	want := worldWith(3, msgs(w.Said, []impl.Msg{leadOf(1, 1, cert.votes...)}, yesFrom(c, 0, 2), sureFrom(c, 2, 0))...)
	want.Reps[0] = entered(0, msgs(yesFrom(c, 0, 2), sureFrom(c, 0, 2)))
	want.Reps[1] = impl.Rep{}
	want.Reps[2] = entered(2, msgs(yesFrom(c, 2, 0), sureFrom(c, 2, 0)))
	mustCalm(t, "the leader", w, want)
}

// TestP29SeveralBroken has two replicas, and all but Bad, become invalid.
func TestP29SeveralBroken(t *testing.T) {
	c := claim(1, 1, joinOf(1))
	w := worldWith(3, leadSaidAgain()...)
	w.Reps[0].Took, w.Reps[2].Took = []impl.Claim{c}, []impl.Claim{c}
	want := worldWith(3, msgs(w.Said, yesFrom(c, 0, 2), sureFrom(c, 1))...)
	want.Reps[0], want.Reps[2] = impl.Rep{}, impl.Rep{}
	want.Reps[1] = entered(1, msgs(yesFrom(c, 0, 2), sureFrom(c, 1)))
	mustCalm(t, "two", w, want)

	w.Reps[1].Took = []impl.Claim{c}
	want = worldWith(3, msgs(w.Said, yesFrom(c, 0, 2))...)
	want.Reps = []impl.Rep{{}, {}, {}, repIn(3, 0)}
	mustCalm(t, "all", w, want)
}

// TestP29BrokenByTheLastMessage has a replica that is not the zero Rep before it receives one message more, in the next round.
func TestP29BrokenByTheLastMessage(t *testing.T) {
	a, b := claim(1, 0, joinOf(1)), claim(1, 0, joinOf(2))
	heard := msgs(yesFrom(b, 1, 2), sureFrom(b, 0))
	w := worldWith(3, msgs([]impl.Msg{offer(b)}, heard, asksFrom(joinOf(2)))...)
	w.Reps[0].Took = []impl.Claim{a}
	// Replicas 1 and 2 have done all that they can, so that nothing is sent behind the ask.
	w.Reps[1], w.Reps[2] = took(w.Reps[1], b, sureFrom(b, 1)...), took(w.Reps[2], b, sureFrom(b, 2)...)
	one := calm(t, w, 1)
	if len(one.Said) != len(w.Said) {
		t.Fatalf("sent %v", one.Said)
	}
	want := took(w.Reps[0], b, heard...)
	want.Next = 2
	mustBeRep(t, "broken at the end of the round", one.Reps[0], want)
	mustBeInvalid(t, "one round", one)
	for n := 2; n <= calmMax; n++ {
		want := cloneWorld(one)
		want.Reps[0] = impl.Rep{}
		mustBeWorld(t, fmt.Sprint("rounds ", n), calm(t, w, n), want)
	}
}

// TestP29BrokenAndSaidMax has no room for the offer of the replica, so that it does not take the request, and room for the offer alone.
func TestP29BrokenAndSaidMax(t *testing.T) {
	b := someAsks(1)[0]
	for _, bad := range []int{1, 2, 3} {
		w := fullWorld(bad, 0)
		w.Reps[0].Took = []impl.Claim{claim(1, 0, joinOf(1))}
		for n := range calmMax + 1 {
			mustBeWorld(t, "no room", calm(t, w, n), w)
		}
		w = fullWorld(bad, 1)
		w.Reps[0].Took = []impl.Claim{claim(1, 0, joinOf(1))}
		want := worldWith(bad, append(cloneMsgs(w.Said), offer(claim(1, 0, b)))...)
		want.Reps[0] = impl.Rep{}
		mustCalm(t, "room for one", w, want)
	}
}

// anyWorld is a valid world, as play may never reach it, in which messages about a view come in any order.
func anyWorld(c *chance) impl.World {
	bad, view := c.below(keepers), 1+c.below(3)
	if bad > 0 && c.below(2) == 0 {
		view = bad // Its leader says what it likes.
	}
	w := worldWith(bad, asksFrom(joinOf(1), joinOf(2))...)
	var votes []impl.Vote
	for me := range keepers {
		for range c.below(3) {
			x := claim(1+c.below(2), c.below(2)*view, joinOf(1+c.below(3)))
			if r := took(w.Reps[me], x); c.below(2) == 0 && modelRepOk(r) {
				w.Reps[me] = r
			}
		}
		v := vote(me)
		if x := claim(1+c.below(2), 0, joinOf(1+c.below(2))); c.below(3) == 0 {
			v.Claims = []impl.Claim{x}
			w.Said = append(w.Said, readySaid(x)...)
		}
		if len(votes) < quorum {
			votes = append(votes, v)
		}
		w.Said = append(w.Said, turnOf(view, v))
	}
	if leader := view % keepers; c.below(2) == 0 || leader == bad {
		next := claim(3, view, joinOf(1+c.below(2)))
		w.Said = append(w.Said, leadOf(leader, view, votes...), offer(next))
	}
	shuffle(c, w.Said)
	return w
}

func shuffle[T any](c *chance, list []T) {
	for i := range list {
		j := c.below(i + 1)
		list[i], list[j] = list[j], list[i]
	}
}

// broken counts by which kind of message replicas become invalid in the first round.
func broken(w impl.World, seen map[string]int) {
	for at := 0; at < len(w.Said); at++ {
		for to := range keepers {
			before := modelRepOk(w.Reps[to])
			next, ok := modelStep(w, hearEvent(at, to))
			if !ok {
				continue
			}
			if before && !modelRepOk(next.Reps[to]) {
				seen[fmt.Sprint("broken by ", w.Said[at].Kind)]++
			}
			if !before && !isZeroRep(next.Reps[to]) {
				seen["not zero"]++
			}
			w = next
		}
	}
}

func TestP29AnyWorld(t *testing.T) {
	c := &chance{state: 29}
	seen := map[string]int{}
	for range 150 {
		w := anyWorld(c)
		if !impl.WorldOk(w) {
			t.Fatalf("not valid: %v", w)
		}
		broken(w, seen)
		checkP29(t, w)
		one, two := impl.WorldCalm(w, 1), impl.WorldCalm(w, 2)
		if !impl.WorldOk(one) && len(two.Said) > len(one.Said) {
			seen["more is said after a round with a broken one"]++
		}
	}
	for _, name := range []string{"broken by 1", "broken by 5", "broken by 6", "more is said after a round with a broken one"} {
		if seen[name] < 5 {
			t.Errorf("%s: only %d times: %v", name, seen[name], seen)
		}
	}
	if seen["not zero"] > 0 {
		t.Errorf("%d invalid replicas are not the zero one after a message", seen["not zero"])
	}
}

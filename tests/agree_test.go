package tests

import (
	"testing"

	"loop.example/wapentake/impl"
)

// twoOffers is a run in which replica 0, which leads the first view, offers two requests for one sequence number: replicas 1 and 3 take the one, and 2 the other.
func twoOffers(t *testing.T) *run {
	t.Helper()
	p := newRun(t, 0)
	p.ask(joinOf(1), joinOf(2))
	a, b := claim(1, 0, joinOf(1)), claim(1, 0, joinOf(2))
	p.fake(offer(a), offer(b))
	p.hear(offer(a), 1, 3)
	p.hear(offer(b), 2)
	p.hear(offer(a), 2)
	p.hear(offer(b), 1, 3)
	p.fake(msgs(yesFrom(a, 0), yesFrom(b, 0), sureFrom(a, 0), sureFrom(b, 0))...)
	return p
}

func TestP26TwoOffers(t *testing.T) {
	p := twoOffers(t)
	a, b := claim(1, 0, joinOf(1)), claim(1, 0, joinOf(2))
	mustTake(t, "offers", p.w.Reps[1], a)
	mustTake(t, "offers", p.w.Reps[2], b)
	mustBe(t, "yes of 1 and 3", p.w.Said, a, true, false)
	mustBe(t, "yes of 2 and Bad", p.w.Said, b, false, false)
	p.hearAll(msgs(yesFrom(a, 0, 1, 3), yesFrom(b, 0, 2)), 1, 2, 3)
	p.hearAll(msgs(sureFrom(a, 0, 1, 3), sureFrom(b, 0)), 1, 2, 3)
	mustDo(t, "sure of 1, 3 and Bad", p.w.Reps[1], a)
	mustDo(t, "sure of 1, 3 and Bad", p.w.Reps[3], a)
	mustDo(t, "it took the other", p.w.Reps[2])
	mustBe(t, "sure of 1, 3 and Bad", p.w.Said, a, true, true)
	after := p.end()
	mustHaveListed(t, "the one that took the other has nothing", withoutReplica(after, 2), joinOf(1))
}

// withoutReplica has the replica's history replaced by that of the next one, so that it is not looked at.
func withoutReplica(w impl.World, k int) impl.World {
	w = cloneWorld(w)
	w.Reps[k].Done = w.Reps[(k+1)%keepers].Done
	return w
}

// TestP23TwoOffersAndAChangeOfView has the other request come after the committed one, in the next view.
func TestP23TwoOffersAndAChangeOfView(t *testing.T) {
	p := twoOffers(t)
	a := claim(1, 0, joinOf(1))
	p.hearAll(yesFrom(a, 1, 3), 1, 3)
	p.hearAll(sureFrom(a, 0, 1, 3), 3)
	mustDo(t, "before the change of view", p.w.Reps[3], a)
	p.turn(1, 2, 3)
	after := p.end()
	mustHaveListed(t, "in view 1", after, joinOf(1), joinOf(2))
	for k := 1; k < keepers; k++ {
		if r := after.Reps[k]; r.View != 1 || !r.Live {
			t.Errorf("replica %d is %v", k, r)
		}
		mustPlayGame(t, after, k, impl.GameFold([]impl.Req{joinOf(1), joinOf(2)}))
	}
}

// TestP26SplitOffers has each replica take another request: none is prepared, and the next leader picks nothing.
func TestP26SplitOffers(t *testing.T) {
	p := newRun(t, 0)
	p.ask(joinOf(1), joinOf(2), joinOf(3))
	for k := 1; k < keepers; k++ {
		c := claim(1, 0, joinOf(k))
		p.fake(append(append(yesFrom(c, 0), sureFrom(c, 0)...), offer(c))...)
		p.hear(offer(c), k)
	}
	p.w = p.end()
	for k := 1; k < keepers; k++ {
		mustBe(t, "each takes another", p.w.Said, claim(1, 0, joinOf(k)), false, false)
		mustDo(t, "each takes another", p.w.Reps[k])
		p.w = mustDoEvent(t, "turn", p.w, turnEvent(k))
	}
	after := calm(t, p.w, calmMax)
	checkPlayed(t, after)
	mustHaveListed(t, "in view 1", after, joinOf(1), joinOf(2), joinOf(3))
}

// twoLeads is a run in which replica 1 leads view 1 with two MsgLead: a request that one replica knows to be prepared is picked by the one of them only.
func twoLeads(t *testing.T) *run {
	t.Helper()
	p := newRun(t, 1)
	a, b := claim(1, 0, joinOf(1)), claim(1, 1, joinOf(2))
	p.ask(joinOf(1), joinOf(2))
	p.hear(askOf(joinOf(1)), 0)
	p.hear(offer(a), 2, 3)
	p.hearAll(yesFrom(a, 2, 3), 2)
	p.turn(0, 2, 3)
	p.fake(turnOf(1, vote(1)))
	p.fake(leadOf(1, 1, vote(0), vote(1), vote(3)), leadOf(1, 1, vote(0), vote(2, a), vote(3)), offer(b))
	p.fake(sureFrom(b, 1)...)
	p.hear(leadOf(1, 1, vote(0), vote(1), vote(3)), 3)
	p.hear(offer(b), 3)
	p.hear(leadOf(1, 1, vote(0), vote(2, a), vote(3)), 0, 2)
	return p
}

func TestP26TwoLeads(t *testing.T) {
	p := twoLeads(t)
	a, b := claim(1, 1, joinOf(1)), claim(1, 1, joinOf(2))
	mustTake(t, "led with the claim", p.w.Reps[0], claim(1, 0, joinOf(1)), a)
	mustTake(t, "led with the claim", p.w.Reps[2], claim(1, 0, joinOf(1)), a)
	mustTake(t, "led without", p.w.Reps[3], claim(1, 0, joinOf(1)), b)
	p.hear(leadOf(1, 1, vote(0), vote(2, claim(1, 0, joinOf(1))), vote(3)), 3)
	p.hear(leadOf(1, 1, vote(0), vote(1), vote(3)), 0, 2)
	p.hear(offer(b), 0, 2)
	p.fake(yesFrom(b, 1)...)
	p.fake(sureFrom(a, 1)...)
	p.hearAll(msgs(yesFrom(a, 0, 2), yesFrom(b, 1, 3)), 0, 2, 3)
	mustBe(t, "yes of 0 and 2", p.w.Said, a, true, true)
	mustBe(t, "yes of 3 and the leader", p.w.Said, b, false, false)
	p.hearAll(msgs(sureFrom(a, 0, 1, 2), sureFrom(b, 1)), 0, 2, 3)
	mustDo(t, "led with the claim", p.w.Reps[0], a)
	mustDo(t, "led with the claim", p.w.Reps[2], a)
	mustDo(t, "led without", p.w.Reps[3])
	p.end()
}

// TestP23TwoLeadsAndTheNextView has view 2 repair what view 1 left: the replica that was led astray takes the request of the others.
func TestP23TwoLeadsAndTheNextView(t *testing.T) {
	p := twoLeads(t)
	a := claim(1, 1, joinOf(1))
	p.fake(sureFrom(a, 1)...)
	p.hearAll(yesFrom(a, 0, 2), 0, 2)
	p.hearAll(sureFrom(a, 0, 1, 2), 0)
	mustDo(t, "in view 1", p.w.Reps[0], a)
	p.turn(0, 2, 3)
	after := p.end()
	mustHaveListed(t, "in view 2", after, joinOf(1), joinOf(2))
	if c := after.Reps[3].Done[0]; c != claim(1, 2, joinOf(1)) {
		t.Errorf("replica 3 has done %v", c)
	}
}

// TestP25ViewAhead has Bad say yes and sure in view 0 for a claim of view 1, which a correct replica leads: they count when the view comes, and not before.
func TestP25ViewAhead(t *testing.T) {
	p := newRun(t, 2)
	a, b, ahead := claim(1, 0, joinOf(1)), claim(1, 1, joinOf(2)), claim(1, 5, joinOf(2))
	p.ask(joinOf(1), joinOf(2))
	p.fake(msgs(yesFrom(b, 2), sureFrom(b, 2), yesFrom(ahead, 2), sureFrom(ahead, 2), yesFrom(claim(2, 6, impl.Req{}), 2))...)
	p.hearAll(msgs(yesFrom(b, 2), sureFrom(b, 2), yesFrom(ahead, 2), sureFrom(ahead, 2)), 0, 1, 3)
	p.hear(askOf(joinOf(1)), 0)
	p.hear(offer(a), 1)
	mustBe(t, "ahead", p.w.Said, b, false, false)
	p.turn(0, 1, 3)
	p.hearAll(turnsFor(1, 0, 3), 1)
	lead := leadOf(1, 1, vote(0), vote(1), vote(3))
	p.hear(lead, 0)
	p.hear(askOf(joinOf(2)), 1)
	mustBe(t, "offered", p.w.Said, b, false, false)
	p.hear(offer(b), 3)
	mustTake(t, "the view is ahead for 3", p.w.Reps[3])
	p.hear(offer(b), 0)
	mustBe(t, "yes of 0 and of Bad, long ago", p.w.Said, b, true, false)
	p.hear(about(3, 0, b), 1)
	p.hearAll(sureFrom(b, 0, 1), 0)
	mustDo(t, "sure of 0, 1 and of Bad, long ago", p.w.Reps[0], b)
	mustBe(t, "sure", p.w.Said, b, true, true)
	after := p.end()
	mustHaveListed(t, "at last", after, joinOf(2), joinOf(1))
}

// TestP25LeaderOfAViewAhead has Bad offer requests in the views that it leads and that nobody has entered.
func TestP25LeaderOfAViewAhead(t *testing.T) {
	p := newRun(t, 1)
	p.ask(joinOf(1), joinOf(2))
	p.fake(leadOf(1, 1), leadOf(1, 5, vote(0), vote(1), vote(2)))
	for _, view := range []int{1, 5} {
		c := claim(1, view, joinOf(2))
		p.fake(msgs([]impl.Msg{offer(c)}, yesFrom(c, 1), sureFrom(c, 1))...)
	}
	for at := range p.w.Said {
		for _, k := range []int{0, 2, 3} {
			p.event(hearEvent(at, k))
		}
	}
	for _, k := range []int{2, 3} {
		mustTake(t, "a view ahead", p.w.Reps[k])
		if p.w.Reps[k].View != 0 {
			t.Errorf("replica %d is in view %d", k, p.w.Reps[k].View)
		}
	}
	mustTake(t, "the leader", p.w.Reps[0], claim(1, 0, joinOf(1)), claim(2, 0, joinOf(2)))
	after := p.end()
	mustHaveListed(t, "view 0", after, joinOf(1), joinOf(2))
}

// committedAtOne is a run in which the first request is committed at replica 0 only, and replica 1 does not even know that it is prepared; Bad is 3.
func committedAtOne(t *testing.T) *run {
	t.Helper()
	p := newRun(t, 3)
	a := claim(1, 0, joinOf(1))
	p.ask(joinOf(1), joinOf(2))
	p.hear(askOf(joinOf(1)), 0)
	p.hear(offer(a), 1, 2)
	p.hearAll(yesFrom(a, 1, 2), 0)
	p.hear(about(3, 1, a), 2)
	p.fake(sureFrom(a, 3)...)
	p.hearAll(sureFrom(a, 2, 3), 0)
	mustDo(t, "at one", p.w.Reps[0], a)
	return p
}

// TestP23TurnNotPrepared has Bad turn with a claim of a later view than the committed one, which is not prepared: it has no vote.
func TestP23TurnNotPrepared(t *testing.T) {
	a, b := claim(1, 0, joinOf(1)), claim(1, 1, joinOf(2))
	for name, claims := range map[string][]impl.Claim{
		"a later view":      {b},
		"the same view":     {claim(1, 0, joinOf(2))},
		"the view itself":   {claim(1, 2, joinOf(2))},
		"a view ahead":      {claim(1, 6, joinOf(2))},
		"null":              {claim(1, 1, impl.Req{})},
		"one prepared":      {a, claim(2, 1, joinOf(2))},
		"the same, later":   {claim(1, 1, joinOf(1))},
		"all but the first": {claim(2, 1, joinOf(2)), claim(5, 0, joinOf(1))},
	} {
		p := committedAtOne(t)
		p.fake(about(3, 3, b), offer(b), about(3, 3, claim(1, 0, joinOf(2))))
		p.turn(1, 2)
		p.turn(1, 2)
		bad := turnOf(2, vote(3, claims...))
		p.fake(bad)
		p.hear(turnOf(2, vote(1)), 2)
		p.hear(bad, 2)
		if p.w.Reps[2].Live {
			t.Fatalf("%s: replica 2 leads with the vote of Bad: %v", name, p.w.Said)
		}
		p.turn(0)
		p.turn(0)
		p.hear(turnOf(2, vote(0, a)), 2)
		lead := leadOf(2, 2, vote(0, a), vote(1), vote(2, a))
		p.hear(lead, 0, 1)
		mustTake(t, name, p.w.Reps[1], a, claim(1, 2, joinOf(1)))
		after := p.end()
		mustHaveListed(t, name, after, joinOf(1), joinOf(2))
		if d := after.Reps[0].Done[0]; d != a {
			t.Errorf("%s: replica 0 has done %v", name, d)
		}
	}
}

// TestP23LatestClaimIsPicked has a request that was prepared in view 0 and another one that was committed in view 1: the leader of view 2 has both claims before it, the earlier one first.
func TestP23LatestClaimIsPicked(t *testing.T) {
	early, late := claim(1, 0, joinOf(2)), claim(1, 1, joinOf(1))
	p := newRun(t, 3)
	p.ask(joinOf(2), joinOf(1))
	p.hear(askOf(joinOf(2)), 0)
	p.hear(offer(early), 1, 2)
	p.hearAll(yesFrom(early, 1, 2), 0)
	p.turn(1, 2)
	p.fake(turnOf(1, vote(3)), turnOf(2, vote(3)))
	p.hearAll(turnsFor(1, 2, 3), 1)
	p.hear(leadOf(1, 1, vote(1), vote(2), vote(3)), 2)
	p.hear(askOf(joinOf(1)), 1)
	p.hear(offer(late), 2)
	p.fake(msgs(yesFrom(late, 3), sureFrom(late, 3))...)
	p.hearAll(yesFrom(late, 2, 3), 1, 2)
	p.hearAll(sureFrom(late, 2, 3), 1)
	mustDo(t, "in view 1", p.w.Reps[1], late)
	p.turn(0, 2)
	p.turn(0)
	p.hearAll([]impl.Msg{turnOf(2, vote(0, early)), turnOf(2, vote(3))}, 2)
	p.hear(leadOf(2, 2, vote(0, early), vote(2, late), vote(3)), 0)
	mustTake(t, "view 2", p.w.Reps[0], early, claim(1, 2, joinOf(1)))
	after := p.end()
	mustHaveListed(t, "view 2", after, joinOf(1), joinOf(2))
}

// TestP23LatestClaimIsReported has one replica know of both, and the others that turn know of none.
func TestP23LatestClaimIsReported(t *testing.T) {
	early, late := claim(1, 0, joinOf(2)), claim(1, 1, joinOf(1))
	p := newRun(t, 3)
	p.ask(joinOf(2), joinOf(1))
	p.hear(askOf(joinOf(2)), 0)
	p.hear(offer(early), 1, 2)
	p.hear(about(3, 1, early), 2)
	p.turn(0, 1)
	p.fake(turnOf(1, vote(3)), turnOf(2, vote(3)))
	p.hearAll(turnsFor(1, 0, 3), 1)
	p.hear(leadOf(1, 1, vote(0), vote(1), vote(3)), 2)
	p.hear(askOf(joinOf(1)), 1)
	p.hear(offer(late), 2)
	p.fake(msgs(yesFrom(late, 3), sureFrom(late, 3))...)
	p.hearAll(yesFrom(late, 2, 3), 1, 2)
	p.hearAll(sureFrom(late, 2, 3), 1)
	mustDo(t, "in view 1", p.w.Reps[1], late)
	p.turn(0, 2)
	p.hearAll(turnsFor(2, 0, 3), 2)
	p.hear(leadOf(2, 2, vote(0), vote(2, late), vote(3)), 0)
	mustTake(t, "view 2", p.w.Reps[0], early, claim(1, 2, joinOf(1)))
	after := p.end()
	mustHaveListed(t, "view 2", after, joinOf(1), joinOf(2))
}

// TestP23OfferNotAsked has Bad offer a request that no client sent; it is taken when a client has sent it, and the offer comes again.
func TestP23OfferNotAsked(t *testing.T) {
	p := newRun(t, 0)
	p.ask(joinOf(2))
	c := claim(1, 0, joinOf(1))
	p.fake(msgs([]impl.Msg{offer(c)}, sureFrom(c, 0))...)
	p.hear(offer(c), 1, 2, 3)
	for k := 1; k < keepers; k++ {
		mustTake(t, "not asked", p.w.Reps[k])
	}
	p.end()
	p.ask(joinOf(1))
	p.hear(offer(c), 1, 2, 3)
	for k := 1; k < keepers; k++ {
		mustTake(t, "asked", p.w.Reps[k], c)
	}
	mustHaveListed(t, "asked", p.end(), joinOf(1))
}

// TestP25NotTheLeader has Bad offer in views that others lead, and lead one of them with good votes.
func TestP25NotTheLeader(t *testing.T) {
	for bad := 1; bad < keepers; bad++ {
		p := newRun(t, bad)
		p.ask(joinOf(1), joinOf(2))
		c := claim(1, 0, joinOf(2))
		p.fake(msgs([]impl.Msg{about(2, bad, c)}, yesFrom(c, bad), sureFrom(c, bad))...)
		others := backups(bad)
		p.hearAll(msgs([]impl.Msg{about(2, bad, c)}, yesFrom(c, bad), sureFrom(c, bad)), others...)
		for _, k := range others {
			mustTake(t, "offered by Bad", p.w.Reps[k])
		}
		view := 1 + bad%(keepers-1)
		for range view {
			p.turn(others...)
		}
		votes := []impl.Vote{vote(others[0]), vote(others[1]), vote(others[2])}
		lead := leadOf(bad, view, votes...)
		p.fake(lead)
		for _, k := range others {
			before := p.w.Reps[k]
			p.hear(lead, k)
			mustBeRep(t, "led by Bad", p.w.Reps[k], before)
		}
		mustHaveListed(t, "led by another", p.end(), joinOf(1), joinOf(2))
	}
}

// TestP23LeadNotPrepared has Bad lead view 3 with votes that nobody can check.
func TestP23LeadNotPrepared(t *testing.T) {
	a, b := claim(1, 0, joinOf(1)), claim(1, 1, joinOf(2))
	p := committedAtOne(t)
	for range 3 {
		p.turn(1, 2)
	}
	p.fake(turnOf(3, vote(3, b)), turnOf(3, vote(3)))
	for _, votes := range [][]impl.Vote{
		{vote(1), vote(2, a), vote(3, b)}, // The vote of Bad is not prepared.
		{vote(1), vote(2), vote(3)},       // Replica 2 did not leave its claim out.
		{vote(0), vote(1), vote(3)},       // Replica 0 did not turn.
		{vote(1), vote(3)},                // One vote is missing.
		{vote(1), vote(2, b), vote(3)},    // Replica 2 sent another claim.
	} {
		lead := leadOf(3, 3, votes...)
		p.fake(lead)
		for k := range 3 {
			before := p.w.Reps[k]
			p.hear(lead, k)
			mustBeRep(t, "led without proof", p.w.Reps[k], before)
		}
	}
	good := leadOf(3, 3, vote(1), vote(2, a), vote(3))
	p.fake(good)
	p.hear(good, 0, 1, 2)
	mustTake(t, "led with proof", p.w.Reps[1], a, claim(1, 3, joinOf(1)))
	after := p.end()
	mustHaveListed(t, "led with proof", after, joinOf(1))
}

// TestP23TwiceLateAndNever has each message come twice to one replica, late and in the reverse order to another, and never to the third.
func TestP23TwiceLateAndNever(t *testing.T) {
	a, b := claim(1, 0, joinOf(1)), claim(2, 0, joinOf(2))
	p := newRun(t, 3)
	p.ask(joinOf(1), joinOf(2))
	p.hearAll(asksFrom(joinOf(1), joinOf(2)), 0, 0)
	p.hearAll([]impl.Msg{offer(a), offer(b), offer(a)}, 1, 1)
	p.fake(msgs(yesFrom(a, 3), yesFrom(b, 3))...)
	p.hearAll(msgs(yesFrom(a, 1, 3), yesFrom(a, 1, 3), yesFrom(b, 3, 1)), 0, 0, 1, 1)
	p.fake(msgs(sureFrom(b, 3), sureFrom(a, 3))...)
	p.hearAll(msgs(sureFrom(a, 1), sureFrom(a, 1), sureFrom(b, 1, 3)), 0, 0)
	mustDo(t, "twice, and one sure never", p.w.Reps[0], b)
	for at := len(p.w.Said) - 1; at >= 0; at-- {
		p.event(hearEvent(at, 2))
	}
	// In the reverse order it takes the claims when it has heard all about them.
	mustDo(t, "late", p.w.Reps[2], a, b)
	mustDo(t, "never", p.w.Reps[1])
	after := p.end()
	mustHaveListed(t, "all is heard", after, joinOf(1), joinOf(2))
}

// TestP23NeverHeard has nothing come to anybody, and everything to nobody but one.
func TestP23NeverHeard(t *testing.T) {
	for bad := range keepers {
		p := newRun(t, bad)
		p.ask(joinOf(1), joinOf(2))
		for k := range keepers {
			if k != bad {
				p.turn(k)
			}
		}
		p.mustHaveDone()
		only := (bad + 1) % keepers
		for at := 0; at < len(p.w.Said); at++ {
			p.event(hearEvent(at, only))
		}
		p.mustHaveDone()
		p.end()
	}
}

// TestP23EachView has replicas leave each view up to the last, of which each that is led by a correct one is entered by all. What was prepared in the first view is done in the last.
func TestP23EachView(t *testing.T) {
	a := claim(1, 0, joinOf(1))
	for bad := range keepers {
		p := newRun(t, bad)
		p.ask(joinOf(1))
		if bad == 0 {
			p.fake(offer(a))
		} else {
			p.hear(askOf(joinOf(1)), 0)
		}
		others := backups(bad)
		for _, k := range others {
			if k != 0 {
				p.hear(offer(a), k)
			}
		}
		p.hearAll(yesFrom(a, p.yesSenders(a)...), others...)
		for view := 1; view <= lastView; view++ {
			p.turn(others...)
			p.enterAll(view, others)
		}
		for _, k := range others {
			mustNotDo(t, "the last view", p.w, turnEvent(k))
			if r := p.w.Reps[k]; r.View != lastView || r.Live != (bad != lastView%keepers) {
				t.Fatalf("Bad is %d, replica %d is %v", bad, k, r)
			}
		}
		after := p.end()
		if bad == lastView%keepers {
			continue // Nobody leads the last view.
		}
		mustHaveListed(t, "the last view", after, joinOf(1))
	}
}

func (p *run) yesSenders(c impl.Claim) []int {
	var from []int
	for k := range keepers {
		if equalIn(p.w.Said, about(3, k, c)) {
			from = append(from, k)
		}
	}
	return from
}

// enterAll has the leader of the view hear that the others turned, and the others hear that it leads. Bad leads nothing.
func (p *run) enterAll(view int, others []int) {
	p.t.Helper()
	leader := view % keepers
	if leader == p.w.Bad {
		return
	}
	for at := 0; at < len(p.w.Said); at++ {
		m := p.w.Said[at]
		if m.View == view && m.Kind == 5 && m.From != leader && !p.w.Reps[leader].Live {
			p.event(hearEvent(at, leader))
		}
		for _, k := range others {
			if m.View == view && m.Kind == 6 && k != leader {
				p.event(hearEvent(at, k))
			}
		}
	}
}

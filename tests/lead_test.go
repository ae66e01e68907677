package tests

import (
	"slices"
	"testing"

	"loop.example/wapentake/impl"
)

// turnsFor is a MsgTurn without claims of each of these replicas.
func turnsFor(view int, from ...int) []impl.Msg {
	var list []impl.Msg
	for _, k := range from {
		list = append(list, turnOf(view, vote(k)))
	}
	return list
}

func TestP16TurnMakesLeader(t *testing.T) {
	for view := 1; view <= lastView; view++ {
		me := view % keepers
		for out := range keepers {
			var votes []impl.Vote
			var turns []impl.Msg
			for k := range keepers {
				if k != out {
					votes = append(votes, vote(k))
					turns = append([]impl.Msg{turnOf(view, vote(k))}, turns...)
				}
			}
			for _, r := range []impl.Rep{repIn(me, 0), repIn(me, view-1), leaving(me, view)} {
				two, sent := hearAll(t, r, turns, turns[:2]...)
				mustSend(t, "two turns", sent)
				want := cloneRep(r)
				want.Heard = turns[:2]
				mustBeRep(t, "two turns", two, want)
				got, sent := hearAll(t, two, turns, turns[2])
				mustSend(t, "three turns", sent, leadOf(me, view, votes...))
				want = repIn(me, view)
				want.Heard = turns
				mustBeRep(t, "three turns", got, want)
				more, sent := hearAll(t, got, turns, turnOf(view, vote(out)))
				mustSend(t, "four turns", sent)
				want.Heard = append(slices.Clone(turns), turnOf(view, vote(out)))
				mustBeRep(t, "four turns", more, want)
			}
		}
	}
}

// TestP16FourTurns has a replica find four votes at once: it sends the first Quorum of them.
func TestP16FourTurns(t *testing.T) {
	turns := turnsFor(2, 3, 1, 0)
	r := repIn(2, 1)
	r.Heard = turns
	own := turnOf(2, vote(2))
	_, sent := hearAll(t, r, turns, own)
	mustSend(t, "four votes", sent, leadOf(2, 2, vote(0), vote(1), vote(2)))
	_, sent = hearAll(t, r, turns, turns[0])
	mustSend(t, "heard already", sent, leadOf(2, 2, vote(0), vote(1), vote(3)))
}

func TestP16TurnOfAViewThatMayNotBeEntered(t *testing.T) {
	for view := 0; view <= lastView; view++ {
		turns := turnsFor(view, 0, 2, 3, 1)
		for me := range keepers {
			for present := 0; present <= lastView; present++ {
				for _, live := range []bool{true, false} {
					r := repIn(me, present)
					r.Live, r.Heard = live, turns
					enters := me == view%keepers && (view > present || view == present && !live)
					got, sent := hear(t, r, turns[1], turns)
					if !enters {
						mustSend(t, "may not be entered", sent)
						mustBeRep(t, "may not be entered", got, r)
						continue
					}
					mustSend(t, "may be entered", sent, leadOf(me, view, vote(0), vote(1), vote(2)))
					if got.View != view || !got.Live {
						t.Fatalf("view %d is entered: %v", view, got)
					}
				}
			}
		}
	}
}

func TestP16TurnThatIsNoVote(t *testing.T) {
	c := claim(1, 1, joinOf(1))
	good := []impl.Msg{turnOf(2, vote(0)), turnOf(2, vote(1)), turnOf(2, vote(3, c))}
	said := msgs(readySaid(c), good)
	r := repIn(2, 1)
	r.Heard = good
	want := leadOf(2, 2, vote(0), vote(1), vote(3, c))
	_, sent := hear(t, r, good[0], said)
	mustSend(t, "all good", sent, want)
	for i := range said {
		_, sent = hear(t, r, good[0], append([]impl.Msg{good[0]}, without(said, i)...))
		if i == len(readySaid(c)) {
			mustSend(t, "sent twice, now once", sent, want)
			continue
		}
		mustSend(t, "one message was not sent", sent)
	}
	for name, v := range map[string]impl.Vote{
		"claim of this view":        vote(3, claim(1, 2, joinOf(1))),
		"claim of a later view":     vote(3, claim(1, 3, joinOf(1))),
		"not prepared":              vote(3, claim(1, 1, joinOf(2))),
		"one prepared, one not":     vote(3, c, claim(2, 1, joinOf(2))),
		"one prepared, one of now":  vote(3, c, claim(3, 2, joinOf(1))),
		"not prepared, of view 0":   vote(3, claim(1, 0, joinOf(1))),
		"one not prepared, one is":  vote(3, c, claim(4, 0, impl.Req{})),
		"the same, of another seq":  vote(3, claim(2, 1, joinOf(1))),
		"prepared, and null is not": vote(3, c, claim(5, 1, impl.Req{})),
	} {
		bad := turnOf(2, v)
		ready := readySaid(claim(1, 2, joinOf(1)))
		ready = msgs(ready, readySaid(claim(1, 3, joinOf(1))), readySaid(claim(3, 2, joinOf(1))), said, []impl.Msg{bad})
		r.Heard = []impl.Msg{good[0], good[1], bad}
		_, sent = hear(t, r, good[0], ready)
		mustSend(t, name, sent)
		r.Heard = []impl.Msg{good[0], good[1], bad, good[2]}
		_, sent = hear(t, r, good[0], ready)
		mustSend(t, name+", and a good one", sent, want)
		r.Heard = []impl.Msg{good[0], good[1], turnOf(3, vote(3)), turnOf(1, vote(3))}
		_, sent = hear(t, r, good[0], append(ready, r.Heard...))
		mustSend(t, "turns for other views", sent)
	}
}

// TestP16FirstTurnCounts has a faulty replica send two different messages that are both good.
func TestP16FirstTurnCounts(t *testing.T) {
	a, b := claim(1, 0, joinOf(1)), claim(2, 1, joinOf(2))
	x, y := turnOf(2, vote(1, a)), turnOf(2, vote(1, a, b))
	turns := turnsFor(2, 0, 3)
	said := msgs(readySaid(a), readySaid(b), turns, []impl.Msg{y, x})
	for _, two := range [][]impl.Msg{{x, y}, {y, x}} {
		r := repIn(2, 0)
		r.Heard = msgs(turns, two)
		_, sent := hear(t, r, two[1], said)
		mustSend(t, "the first in Heard", sent, leadOf(2, 2, vote(0), vote(1, two[0].Claims...), vote(3)))
	}
}

func TestP16TurnAtHeardMax(t *testing.T) {
	turns := turnsFor(2, 0, 3, 1)
	r := repIn(2, 0)
	r.Heard = msgs(turns[:2], crowd(heardMax-3))
	_, sent := hear(t, r, turns[2], turns)
	mustSend(t, "one place left", sent, leadOf(2, 2, vote(0), vote(1), vote(3)))
	r.Heard = msgs(turns[:2], crowd(heardMax-2))
	mustIgnore(t, "no place left", r, turns[2], turns)
	r.Heard = append(r.Heard[:heardMax-1], turnOf(2, vote(2)))
	_, sent = hear(t, r, turns[2], append(slices.Clone(turns), turnOf(2, vote(2))))
	mustSend(t, "no place left, but enough others", sent, leadOf(2, 2, vote(0), vote(2), vote(3)))
}

func TestP16TurnPicks(t *testing.T) {
	a, b, d := claim(1, 0, joinOf(1)), claim(4, 0, joinOf(3)), claim(1, 1, impl.Req{})
	said := msgs(readySaid(a), readySaid(b), readySaid(d))
	turns := []impl.Msg{turnOf(2, vote(0, a, b)), turnOf(2, vote(1, d)), turnOf(2, vote(3))}
	r := impl.Rep{Me: 2, View: 1, Live: true, Next: 6, Took: []impl.Claim{a}, Heard: turns[:2], Done: []impl.Claim{a}}
	got, sent := hear(t, r, turns[2], msgs(said, turns))
	mustSend(t, "picked", sent, leadOf(2, 2, vote(0, a, b), vote(1, d), vote(3)))
	want := impl.Rep{
		Me: 2, View: 2, Live: true, Next: 5, Heard: turns, Done: []impl.Claim{a},
		Took: []impl.Claim{a, claim(1, 2, impl.Req{}), claim(2, 2, impl.Req{}), claim(3, 2, impl.Req{}), claim(4, 2, joinOf(3))},
	}
	mustBeRep(t, "picked", got, want)
	five := claim(5, 0, joinOf(4))
	turns[2] = turnOf(2, vote(3, five))
	got, _ = hear(t, r, turns[2], msgs(said, readySaid(five), turns))
	if got.Next != lastSeq+1 || len(got.Took) != 1+lastSeq {
		t.Errorf("five are picked: %v", got)
	}
	mustIgnore(t, "no place is left", got, askOf(joinOf(2)), asksFrom(joinOf(2)))
}

// goodLead is a MsgLead of view 2 that picks three requests, and what was said.
func goodLead() (impl.Msg, []impl.Msg) {
	a, b := claim(1, 0, joinOf(1)), claim(3, 1, joinOf(3))
	cert := certify(2, vote(0, a), vote(1, b), vote(3, a))
	lead := leadOf(2, 2, cert.votes...)
	return lead, append(cert.said, lead)
}

func goodLeadClaims() []impl.Claim {
	return []impl.Claim{claim(1, 2, joinOf(1)), claim(2, 2, impl.Req{}), claim(3, 2, joinOf(3))}
}

func TestP17Lead(t *testing.T) {
	lead, said := goodLead()
	for me := range keepers {
		for view := 0; view <= lastView; view++ {
			for _, live := range []bool{true, false} {
				r := repIn(me, view)
				r.Live, r.Next, r.Heard = live, 5, crowd(3)
				r.Took = []impl.Claim{claim(1, 0, joinOf(4))}
				if me == 2 || view > 2 || view == 2 && live {
					mustIgnore(t, "lead", r, lead, said)
					continue
				}
				want := cloneRep(r)
				want.View, want.Live, want.Next = 2, true, 4
				var yes []impl.Msg
				for _, c := range goodLeadClaims() {
					want.Took = append(want.Took, c)
					yes = append(yes, about(3, me, c))
				}
				want.Heard = append(want.Heard, yes...)
				got, sent := hear(t, r, lead, said)
				mustSend(t, "lead", sent, yes...)
				mustBeRep(t, "lead", got, want)
				mustIgnore(t, "lead again", got, lead, said)
			}
		}
	}
}

func TestP17LeadEachView(t *testing.T) {
	for view := 0; view <= lastView; view++ {
		cert := certify(view, vote(0), vote(2), vote(3))
		for from := range keepers {
			m := leadOf(from, view, cert.votes...)
			for me := range keepers {
				r := leaving(me, view)
				if from != view%keepers || from == me {
					mustIgnore(t, "of no leader", r, m, append(cert.said, m))
					continue
				}
				got, sent := hear(t, r, m, append(cert.said, m))
				mustSend(t, "nothing is picked", sent)
				mustBeRep(t, "nothing is picked", got, repIn(me, view))
			}
		}
	}
}

func TestP17LeadWithoutACertificate(t *testing.T) {
	lead, said := goodLead()
	r := repIn(0, 1)
	for i := range said {
		if i < len(said)-1 {
			fewer := without(said, i)
			if modelVotesOk(fewer, 2, lead.Votes) {
				continue // The claim of two votes was made ready twice.
			}
			mustIgnore(t, "one message was not sent", r, lead, fewer)
		}
	}
	for _, votes := range listsOff(lead.Votes, vote(2), votesOff) {
		m := leadOf(2, 2, votes...)
		if modelMsgOk(m) && !modelVotesOk(said, 2, votes) {
			mustIgnore(t, "other votes", r, m, append(slices.Clone(said), m))
		}
	}
	for _, view := range []int{1, 3, 4, 5, 6} {
		m := leadOf(view%keepers, view, lead.Votes...)
		mustIgnore(t, "of another view", repIn((view+1)%keepers, 0), m, append(slices.Clone(said), m))
	}
	four := append(cloneVotes(lead.Votes[:2]), vote(2), lead.Votes[2])
	m := leadOf(2, 2, four...)
	mustIgnore(t, "four votes", r, m, append(said, turnOf(2, vote(2)), m))
	m = leadOf(2, 2)
	mustIgnore(t, "no votes", r, m, append(said, m))
}

// TestP17LeadAndSure has a replica that finds, as it enters the view, that its new claims are prepared, and one is committed.
func TestP17LeadAndSure(t *testing.T) {
	lead, said := goodLead()
	claims := goodLeadClaims()
	r := repIn(1, 0)
	r.Heard = msgs(yesFrom(claims[0], 3), yesFrom(claims[1], 0, 3), yesFrom(claims[2], 2), sureFrom(claims[1], 2, 3))
	got, sent := hear(t, r, lead, said)
	want := []impl.Msg{
		about(3, 1, claims[0]), about(3, 1, claims[1]), about(3, 1, claims[2]),
		about(4, 1, claims[0]), about(4, 1, claims[1]),
	}
	mustSend(t, "sure", sent, want...)
	mustTake(t, "sure", got, claims...)
	mustDo(t, "sure", got, claims[1])
	if !sameMsgs(got.Heard, append(r.Heard, want...)) {
		t.Errorf("heard %v", got.Heard)
	}
}

// TestP17LeadTakesThePlace has a replica that refuses an offer for a place that the MsgLead filled.
func TestP17LeadTakesThePlace(t *testing.T) {
	lead, said := goodLead()
	r, _ := hear(t, repIn(3, 1), lead, said)
	for seq := 1; seq <= lastSeq; seq++ {
		c := claim(seq, 2, joinOf(4))
		all := append(slices.Clone(said), askOf(joinOf(4)), offer(c))
		if seq <= 3 {
			mustIgnore(t, "a place that is taken", r, offer(c), all)
			continue
		}
		_, sent := hear(t, r, offer(c), all)
		mustSend(t, "a free place", sent, about(3, 3, c))
	}
}

// TestP17FullReplica has a replica with all claims that there can be, no room in Heard, and a MsgLead that makes it take five more and sure of ten.
func TestP17FullReplica(t *testing.T) {
	var claims, later []impl.Claim
	for seq := 1; seq <= lastSeq; seq++ {
		claims = append(claims, claim(seq, 0, joinOf(1)))
		later = append(later, claim(seq, lastView, joinOf(1)))
	}
	cert := certify(lastView, vote(0, claims...), vote(1), vote(2))
	lead := leadOf(2, lastView, cert.votes...)
	r := leaving(0, lastView)
	r.Took = allPlaces(joinOf(1))
	for _, c := range later {
		r.Heard = append(r.Heard, yesFrom(c, 1, 3)...)
	}
	r.Heard = append(r.Heard, crowd(heardMax-len(r.Heard))...)
	got, sent := hear(t, r, lead, append(cert.said, lead))
	var want []impl.Msg
	for _, c := range later {
		want = append(want, about(3, 0, c))
	}
	for range 2 {
		for _, c := range later {
			want = append(want, about(4, 0, c))
		}
	}
	mustSend(t, "full", sent, want...)
	mustTake(t, "full", got, append(allPlaces(joinOf(1)), later...)...)
}

// TestP17EarlierRequestNotAsked has a replica take a picked request that no client sent: only offers are checked for that.
func TestP17EarlierRequestNotAsked(t *testing.T) {
	lead, said := goodLead()
	for _, m := range said {
		if m.Kind == 1 {
			t.Fatal("a client sent a request")
		}
	}
	r, _ := hear(t, repIn(3, 1), lead, said)
	mustTake(t, "picked", r, goodLeadClaims()...)
}

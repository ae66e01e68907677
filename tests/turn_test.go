package tests

import (
	"slices"
	"testing"

	"loop.example/wapentake/impl"
)

func TestP18EachView(t *testing.T) {
	for me := range keepers {
		for view := 0; view <= lastView; view++ {
			for _, live := range []bool{true, false} {
				r := repIn(me, view)
				r.Live, r.Next = live, 3
				r.Took, r.Done = []impl.Claim{claim(1, 0, joinOf(1))}, []impl.Claim{claim(2, 0, joinOf(2))}
				r.Heard = crowd(2)
				got, sent := turn(t, r, nil)
				if view == lastView {
					mustSend(t, "the last view", sent)
					mustBeRep(t, "the last view", got, r)
					continue
				}
				m := turnOf(view+1, vote(me))
				mustSend(t, "turn", sent, m)
				want := cloneRep(r)
				want.View, want.Live, want.Heard = view+1, false, append(want.Heard, m)
				mustBeRep(t, "turn", got, want)
			}
		}
	}
}

func TestP18UpToTheLastView(t *testing.T) {
	for me := range keepers {
		r := impl.RepNew(me)
		for view := 1; view <= lastView; view++ {
			next, sent := turn(t, r, nil)
			mustSend(t, "turn", sent, turnOf(view, vote(me)))
			r = next
		}
		got, sent := turn(t, r, nil)
		mustSend(t, "once more", sent)
		mustBeRep(t, "once more", got, r)
	}
}

func TestP18Claims(t *testing.T) {
	early, late, latest := claim(2, 0, joinOf(1)), claim(2, 2, joinOf(2)), claim(2, 3, joinOf(3))
	other, null := claim(1, 1, joinOf(4)), claim(5, 1, impl.Req{})
	r := impl.Rep{Me: 2, View: 3, Live: true, Next: 1, Took: []impl.Claim{null, late, early, latest, other}}
	heard := msgs(yesFrom(early, 1, 2), yesFrom(late, 0, 1), yesFrom(latest, 0, 1), yesFrom(other, 0, 2), yesFrom(null, 2, 3))
	cases := []struct {
		name string
		drop []impl.Claim
		want []impl.Claim
	}{
		{"all are prepared", nil, []impl.Claim{other, latest, null}},
		{"not the latest", []impl.Claim{latest}, []impl.Claim{other, late, null}},
		{"not the later ones", []impl.Claim{latest, late}, []impl.Claim{other, early, null}},
		{"none of number 2", []impl.Claim{latest, late, early}, []impl.Claim{other, null}},
		{"not the earliest", []impl.Claim{early}, []impl.Claim{other, latest, null}},
		{"only the latest", []impl.Claim{early, late, other, null}, []impl.Claim{latest}},
		{"none", r.Took, nil},
	}
	for _, x := range cases {
		r.Heard = nil
		for i := 0; i < len(heard); i += 2 {
			m := heard[i]
			r.Heard = append(r.Heard, m)
			if !slices.Contains(x.drop, claim(m.Seq, m.View, m.Req)) {
				r.Heard = append(r.Heard, heard[i+1])
			}
		}
		for range 2 {
			got, sent := turn(t, r, nil)
			mustSend(t, x.name, sent, turnOf(4, vote(2, x.want...)))
			if !modelHas(got.Heard, sent[0]) {
				t.Fatalf("%s: the message is not stored", x.name)
			}
			slices.Reverse(r.Took)
		}
	}
}

// TestP18WhoIsPrepared has claims that almost are.
func TestP18WhoIsPrepared(t *testing.T) {
	for _, c := range someClaims() {
		b := backups(c.View)
		r := took(repIn(1, 5), c)
		cases := map[string][]impl.Msg{
			"one yes":                   yesFrom(c, b[0]),
			"one yes, and the leader's": yesFrom(c, b[0], c.View%keepers),
			"one yes twice":             yesFrom(c, b[1], b[1]),
			"sure":                      sureFrom(c, 0, 1, 2, 3),
			"another request":           yesFrom(claim(c.Seq, c.View, joinOf(4)), 0, 1, 2, 3),
		}
		for name, heard := range cases {
			r.Heard = heard
			_, sent := turn(t, r, append([]impl.Msg{offer(c)}, yesFrom(c, 0, 1, 2, 3)...))
			mustSend(t, name, sent, turnOf(6, vote(1)))
		}
		r.Heard = yesFrom(c, b[2], b[0])
		_, sent := turn(t, r, nil)
		mustSend(t, "two yes", sent, turnOf(6, vote(1, c)))
		r.Took = nil
		_, sent = turn(t, r, nil)
		mustSend(t, "not taken", sent, turnOf(6, vote(1)))
	}
}

func TestP18Lead(t *testing.T) {
	for view := range lastView {
		next := view + 1
		me := next % keepers
		b := backups(next)
		turns := []impl.Msg{turnOf(next, vote(b[2])), turnOf(next, vote(b[0]))}
		for _, live := range []bool{true, false} {
			r := repIn(me, view)
			r.Live, r.Heard = live, turns
			got, sent := turn(t, r, turns)
			votes := []impl.Vote{vote(me), vote(b[0]), vote(b[2])}
			slices.SortFunc(votes, func(a, b impl.Vote) int { return a.From - b.From })
			mustSend(t, "Quorum turns", sent, turnOf(next, vote(me)), leadOf(me, next, votes...))
			want := repIn(me, next)
			want.Heard = append(slices.Clone(turns), sent[0])
			mustBeRep(t, "Quorum turns", got, want)
			for i := range turns {
				r.Heard = without(turns, i)
				got, sent = turn(t, r, turns)
				mustSend(t, "one fewer", sent, turnOf(next, vote(me)))
				want = leaving(me, next)
				want.Heard = append(r.Heard, sent[0])
				mustBeRep(t, "one fewer", got, want)
				r.Heard = turns
				_, sent = turn(t, r, without(turns, i))
				mustSend(t, "one was not sent", sent, turnOf(next, vote(me)))
			}
			for _, k := range b {
				r.Me = k
				_, sent = turn(t, r, turns)
				mustSend(t, "not the leader", sent, turnOf(next, vote(k)))
			}
		}
	}
}

// TestP18LeadWithClaims has a new leader that picks from the claims of others and its own.
func TestP18LeadWithClaims(t *testing.T) {
	a, b, d := claim(1, 0, joinOf(1)), claim(3, 0, joinOf(3)), claim(1, 1, joinOf(2))
	said := msgs(readySaid(a), readySaid(b), readySaid(d))
	turns := []impl.Msg{turnOf(2, vote(3, d)), turnOf(2, vote(0, a))}
	r := impl.Rep{Me: 2, View: 1, Live: true, Next: 1, Took: []impl.Claim{b}, Heard: msgs(yesFrom(b, 1, 2), turns)}
	got, sent := turn(t, r, msgs(said, turns))
	mine := turnOf(2, vote(2, b))
	mustSend(t, "claims", sent, mine, leadOf(2, 2, vote(0, a), vote(2, b), vote(3, d)))
	mustTake(t, "claims", got, b, claim(1, 2, joinOf(2)), claim(2, 2, impl.Req{}), claim(3, 2, joinOf(3)))
	if got.Next != 4 || !got.Live || got.View != 2 {
		t.Errorf("the replica is %v", got)
	}
	// Its own claim is prepared by what it heard, but not by what was sent: it has no vote.
	got, sent = turn(t, r, msgs(readySaid(a), yesFrom(b, 1, 2), readySaid(d), turns))
	mustSend(t, "its own claim was never proposed", sent, mine)
	mustBeRep(t, "its own claim was never proposed", got, took(leaving(2, 2), b, append(r.Heard, mine)...))
}

// TestP18NothingElse has a replica that would be sure, and have more done, if it received a message.
func TestP18NothingElse(t *testing.T) {
	old, c := claim(2, 0, joinOf(2)), claim(1, 1, joinOf(1))
	turns := []impl.Msg{turnOf(1, vote(0)), turnOf(1, vote(3, claim(1, 0, joinOf(1))))}
	said := msgs(readySaid(claim(1, 0, joinOf(1))), readySaid(old), turns)
	r := took(repIn(1, 0), old, msgs(yesFrom(old, 1, 2), sureFrom(old, 0, 2, 3), yesFrom(c, 2, 3), sureFrom(c, 0, 2, 3), turns)...)
	got, sent := turn(t, r, said)
	mustSend(t, "nothing else", sent, turnOf(1, vote(1, old)), leadOf(1, 1, vote(0), vote(1, old), vote(3, claim(1, 0, joinOf(1)))))
	mustTake(t, "nothing else", got, old, c, claim(2, 1, joinOf(2)))
	mustDo(t, "nothing else", got)
	got, sent = hear(t, got, turns[0], msgs(said, sent))
	mustSend(t, "a message comes", sent, about(4, 1, c))
	mustDo(t, "a message comes", got, c, old)
}

func TestP18HeardMax(t *testing.T) {
	turns := []impl.Msg{turnOf(1, vote(0)), turnOf(1, vote(3))}
	r := repIn(1, 0)
	r.Heard = msgs(turns, crowd(heardMax-3))
	_, sent := turn(t, r, turns)
	mustSend(t, "one place left", sent, turnOf(1, vote(1)), leadOf(1, 1, vote(0), vote(1), vote(3)))
	r.Heard = msgs(turns, crowd(heardMax-2))
	got, sent := turn(t, r, turns)
	mustSend(t, "no place left", sent, turnOf(1, vote(1)))
	want := cloneRep(r)
	want.View, want.Live = 1, false
	mustBeRep(t, "no place left", got, want)
	r.Heard = append(r.Heard[:heardMax-1], turnOf(1, vote(2)))
	_, sent = turn(t, r, append(slices.Clone(turns), turnOf(1, vote(2))))
	mustSend(t, "no place left, but enough others", sent, turnOf(1, vote(1)), leadOf(1, 1, vote(0), vote(2), vote(3)))
}

// TestP18SecondTurnOfItself has a replica that heard a MsgTurn of itself for the next view, which it did not send as far as it knows.
func TestP18SecondTurnOfItself(t *testing.T) {
	c := claim(1, 0, joinOf(1))
	turns := []impl.Msg{turnOf(1, vote(0)), turnOf(1, vote(1, c)), turnOf(1, vote(3))}
	r := repIn(1, 0)
	r.Heard = turns
	said := msgs(readySaid(c), turns)
	_, sent := turn(t, r, said)
	mustSend(t, "the first counts", sent, turnOf(1, vote(1)), leadOf(1, 1, vote(0), vote(1, c), vote(3)))
	_, sent = turn(t, r, turns)
	mustSend(t, "the first is not prepared", sent, turnOf(1, vote(1)), leadOf(1, 1, vote(0), vote(1), vote(3)))
}

// TestP18ClaimOfALaterView has a replica that took a claim of the view that it turns to: its own message is no vote.
func TestP18ClaimOfALaterView(t *testing.T) {
	c := claim(1, 1, joinOf(1))
	turns := []impl.Msg{turnOf(1, vote(0)), turnOf(1, vote(3))}
	r := took(repIn(1, 0), c, msgs(yesFrom(c, 2, 3), turns)...)
	_, sent := turn(t, r, msgs(readySaid(c), turns))
	mustSend(t, "a claim of this view", sent, turnOf(1, vote(1, c)))
}

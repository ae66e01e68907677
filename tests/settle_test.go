package tests

import (
	"slices"
	"testing"

	"loop.example/wapentake/impl"
)

func TestP17NotPrepared(t *testing.T) {
	for _, c := range []impl.Claim{claim(2, 3, joinOf(1)), claim(1, 0, impl.Req{}), claim(4, 6, impl.Req{Client: 2, Num: 3, Op: 5, X: 1, Y: 2})} {
		b := backups(c.View)
		r := took(repIn(b[0], c.View), c, about(3, b[0], c))
		for _, near := range claimsOff(c) {
			m := about(3, b[1], near)
			if !modelMsgOk(m) {
				continue
			}
			got, sent := hearAll(t, r, nil, m)
			mustSend(t, "yes for another claim", sent)
			mustBeRep(t, "yes for another claim", got, took(repIn(b[0], c.View), c, about(3, b[0], c), m))
		}
		_, sent := hearAll(t, r, nil, about(4, b[1], c), about(4, b[2], c), about(4, b[0], c))
		mustSend(t, "sure is no yes", sent)
		_, sent = hearAll(t, r, nil, about(3, b[0], c))
		mustSend(t, "one yes twice", sent)
		// Heard may hold a message twice.
		r.Heard = append(r.Heard, r.Heard[0], r.Heard[0])
		_, sent = hearAll(t, r, nil, turnOf(6, vote(0)))
		mustSend(t, "one yes stored three times", sent)
	}
}

func TestP17NotTaken(t *testing.T) {
	c := claim(1, 0, joinOf(1))
	r := repIn(3, 0)
	list := msgs(yesFrom(c, 1, 2, 3), sureFrom(c, 0, 1, 2, 3))
	got, sent := hearAll(t, r, nil, list...)
	mustSend(t, "not taken", sent)
	r.Heard = list
	mustBeRep(t, "not taken", got, r)
	// The claim is taken late, and is prepared and committed at once.
	said := msgs(asksFrom(joinOf(1)), []impl.Msg{offer(c)}, list)
	got, sent = hear(t, r, offer(c), said)
	mustSend(t, "taken late", sent, about(3, 3, c))
	mustDo(t, "taken late", got, c)
	r.Heard = yesFrom(c, 1, 2)
	_, sent = hear(t, r, offer(c), said)
	mustSend(t, "taken late, before anybody is sure", sent, about(3, 3, c), about(4, 3, c))
	r.Heard = yesFrom(c, 1)
	_, sent = hear(t, r, offer(c), said)
	mustSend(t, "taken late, its own yes is the second", sent, about(3, 3, c), about(4, 3, c))
}

// TestP17LeaderPrepared has a leader that heard the yes of others before it took the claim, as a faulty one may.
func TestP17LeaderPrepared(t *testing.T) {
	c := claim(1, 0, joinOf(1))
	r := repIn(0, 0)
	r.Heard = msgs(yesFrom(c, 2, 3), sureFrom(c, 2, 3))
	got, sent := hear(t, r, askOf(joinOf(1)), asksFrom(joinOf(1)))
	mustSend(t, "leader", sent, offer(c), about(4, 0, c))
	mustDo(t, "leader", got, c)
}

// TestP17AllKinds has a prepared claim for which any message makes the replica sure.
func TestP17AllKinds(t *testing.T) {
	c := claim(1, 0, joinOf(1))
	r := took(repIn(1, 0), c, yesFrom(c, 2, 3)...)
	for _, g := range goodMsgs() {
		if g.msg.Kind == 6 {
			continue
		}
		_, sent := hear(t, r, g.msg, []impl.Msg{g.msg})
		mustSend(t, g.name, sent, about(4, 1, c))
	}
	// One that would lead if there were certificates, and one that no certificate could help.
	for _, m := range []impl.Msg{leadOf(2, 2, vote(0), vote(1), vote(3)), leadOf(3, 2)} {
		_, sent := hear(t, r, m, []impl.Msg{m})
		mustSend(t, "lead", sent, about(4, 1, c))
	}
}

func TestP17ViewIsGone(t *testing.T) {
	c := claim(1, 1, joinOf(1))
	for me := range keepers {
		for view := 0; view <= lastView; view++ {
			for _, live := range []bool{true, false} {
				r := repIn(me, view)
				r.Live = live
				r = took(r, c, about(3, 0, c))
				got, sent := hearAll(t, r, nil, about(3, 2, c))
				if view == 1 && live {
					mustSend(t, "of this view", sent, about(4, me, c))
					continue
				}
				mustSend(t, "the view is gone", sent)
				got, sent = hearAll(t, got, nil, sureFrom(c, 0, 3)...)
				mustSend(t, "two are sure", sent)
				mustDo(t, "two are sure", got)
				got, sent = hearAll(t, got, nil, sureFrom(c, 1)...)
				mustSend(t, "three are sure", sent)
				mustDo(t, "three are sure", got, c)
			}
		}
	}
}

func TestP16Committed(t *testing.T) {
	for _, c := range someClaims() {
		for me := range keepers {
			b := backups(c.View)
			r := took(repIn(me, c.View), c, yesFrom(c, b[0], b[1])...)
			r.Heard = append(r.Heard, about(4, me, c))
			got, sent := hearAll(t, r, nil, about(4, (me+1)%keepers, c))
			mustDo(t, "two are sure", got)
			got, sent2 := hearAll(t, got, nil, about(4, (me+2)%keepers, c))
			mustSend(t, "three are sure", append(sent, sent2...))
			mustDo(t, "three are sure", got, c)
			got, _ = hearAll(t, got, nil, about(4, (me+3)%keepers, c))
			mustDo(t, "all are sure", got, c)
		}
	}
}

func TestP16NotCommitted(t *testing.T) {
	c := claim(2, 3, impl.Req{Client: 2, Num: 3, Op: 5, X: 1, Y: 2})
	r := took(repIn(0, 3), c, msgs(yesFrom(c, 1, 2), sureFrom(c, 0, 1))...)
	for _, near := range claimsOff(c) {
		if m := about(4, 2, near); modelMsgOk(m) {
			got, _ := hearAll(t, r, nil, m)
			mustDo(t, "sure of another claim", got)
		}
	}
	got, _ := hearAll(t, r, nil, about(4, 1, c), about(4, 0, c), about(3, 0, c), about(3, 3, c))
	mustDo(t, "two are sure twice", got)
	r.Heard = append(r.Heard, about(4, 1, c), about(4, 1, c))
	got, _ = hearAll(t, r, nil, turnOf(6, vote(0)))
	mustDo(t, "one sure stored three times", got)
	// Sure of all, but prepared by nobody: the leader's yes does not count.
	r.Heard = msgs(yesFrom(c, 1, 3), sureFrom(c, 0, 1, 2, 3))
	got, _ = hearAll(t, r, nil, turnOf(6, vote(0)))
	mustDo(t, "one yes, and the leader's", got)
	got, _ = hearAll(t, got, nil, about(3, 2, c))
	mustDo(t, "two yes", got, c)
}

// TestP16DoneIsInOrder has a replica commit its claims in another order than that of Seq.
func TestP16DoneIsInOrder(t *testing.T) {
	for _, order := range [][]int{{1, 2, 3, 4, 5}, {5, 4, 3, 2, 1}, {3, 1, 5, 2, 4}, {2, 5, 1, 4, 3}} {
		r := repIn(1, 0)
		var want []impl.Claim
		for _, seq := range order {
			c := claim(seq, 0, joinOf(1+seq%clients))
			got, _ := hearAll(t, took(r, c, yesFrom(c, 1, 2)...), nil, sureFrom(c, 0, 1, 2)...)
			want = append(want, c)
			slices.SortFunc(want, func(a, b impl.Claim) int { return a.Seq - b.Seq })
			mustDo(t, "one more", got, want...)
			r = got
		}
	}
}

// TestP16DoneAtOnce has a message that makes a replica find several committed claims.
func TestP16DoneAtOnce(t *testing.T) {
	r := repIn(1, 4)
	var want []impl.Claim
	for _, seq := range []int{4, 2, 5, 1} {
		c := claim(seq, seq%2, joinOf(2))
		r = took(r, c, msgs(yesFrom(c, 2, 3), sureFrom(c, 0, 2, 3))...)
		want = append(want, c)
	}
	slices.SortFunc(want, func(a, b impl.Claim) int { return a.Seq - b.Seq })
	r.Heard = slices.DeleteFunc(r.Heard, func(m impl.Msg) bool { return m.Kind == 3 && m.Seq == 5 })
	got, sent := hearAll(t, r, nil, turnOf(0, vote(3)))
	mustSend(t, "at once", sent)
	mustDo(t, "at once", got, want[:3]...)
}

func TestP16DoneAlready(t *testing.T) {
	old, c := claim(2, 0, joinOf(1)), claim(2, 1, joinOf(2))
	for _, d := range []impl.Claim{old, c, claim(2, 6, impl.Req{})} {
		r := took(took(repIn(2, 1), old, yesFrom(old, 1, 2)...), c, yesFrom(c, 2, 3)...)
		r.Done = []impl.Claim{claim(1, 0, joinOf(3)), d}
		got, sent := hearAll(t, r, nil, sureFrom(c, 0, 1, 2)...)
		mustSend(t, "done already", sent, about(4, 2, c))
		mustDo(t, "done already", got, r.Done...)
		got, _ = hearAll(t, r, nil, sureFrom(old, 0, 1, 3)...)
		mustDo(t, "done already, the earlier view", got, r.Done...)
	}
}

// TestP16FirstTakenIsDone has two committed claims of one sequence number: the one that was taken first is done.
func TestP16FirstTakenIsDone(t *testing.T) {
	a, b := claim(3, 2, joinOf(1)), claim(3, 1, joinOf(1))
	for _, list := range [][]impl.Claim{{a, b}, {b, a}} {
		r := repIn(0, 4)
		for _, c := range list {
			r = took(r, c, msgs(yesFrom(c, 0, 3), sureFrom(c, 0, 2, 3))...)
		}
		got, _ := hearAll(t, r, nil, turnOf(0, vote(3)))
		mustDo(t, "first taken", got, list[0])
	}
}

// TestP17SureInOrder has a message that makes a replica sure of several claims, in the order in which it took them.
func TestP17SureInOrder(t *testing.T) {
	r := repIn(3, 2)
	var want []impl.Msg
	for _, seq := range []int{3, 1, 5, 4} {
		c := claim(seq, 2, joinOf(1))
		r = took(r, c, yesFrom(c, 0, 1)...)
		want = append(want, about(4, 3, c))
	}
	gone := claim(2, 1, joinOf(1))
	r = took(r, gone, yesFrom(gone, 0, 2)...)
	got, sent := hearAll(t, r, nil, turnOf(0, vote(3)))
	mustSend(t, "in order", sent, want...)
	r.Heard = msgs(r.Heard, []impl.Msg{turnOf(0, vote(3))}, want)
	mustBeRep(t, "in order", got, r)
}

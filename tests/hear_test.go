package tests

import (
	"slices"
	"testing"

	"loop.example/wapentake/impl"
)

// oneOfEach is a message of each kind that changes the replica, which is 1 in view 0 and has taken a claim.
func oneOfEach() (impl.Rep, []impl.Msg, []impl.Msg) {
	r, c := repIn(1, 0), claim(2, 0, joinOf(2))
	r.Took = []impl.Claim{claim(1, 0, joinOf(1))}
	said := msgs(asksFrom(joinOf(1), joinOf(2)), []impl.Msg{turnOf(2, vote(0)), turnOf(2, vote(1)), turnOf(2, vote(3))})
	lead := leadOf(2, 2, vote(0), vote(1), vote(3))
	return r, said, []impl.Msg{offer(c), about(3, 2, c), about(4, 3, c), turnOf(1, vote(3)), lead}
}

func TestP16NotSent(t *testing.T) {
	r, said, list := oneOfEach()
	for _, m := range list {
		mustIgnore(t, "not sent", r, m, said)
		mustIgnore(t, "nothing was sent", r, m, nil)
		for _, x := range msgsOff(m) {
			mustIgnore(t, "another message was sent", r, m, append(slices.Clone(said), x))
		}
		if got, _ := hear(t, r, m, append(slices.Clone(said), m)); sameRep(got, r) {
			t.Errorf("%v changes nothing", m)
		}
		if got, _ := hear(t, r, m, append([]impl.Msg{m}, said...)); sameRep(got, r) {
			t.Errorf("%v, sent first, changes nothing", m)
		}
	}
	leader := repIn(0, 0)
	mustIgnore(t, "not sent", leader, askOf(joinOf(1)), asksFrom(joinOf(2)))
	if got, _ := hear(t, leader, askOf(joinOf(1)), asksFrom(joinOf(2), joinOf(1))); sameRep(got, leader) {
		t.Error("MsgAsk changes nothing")
	}
}

// TestP16NotSentButPrepared has a replica that would commit if it received anything.
func TestP16NotSentButPrepared(t *testing.T) {
	c := claim(1, 0, joinOf(1))
	r := repIn(1, 0)
	r.Took = []impl.Claim{c}
	r.Heard = msgs(yesFrom(c, 1, 2), sureFrom(c, 0, 2))
	m := about(3, 0, claim(5, 5, joinOf(2)))
	mustIgnore(t, "not sent", r, m, yesFrom(c, 1, 2))
	got, sent := hear(t, r, m, []impl.Msg{m})
	mustSend(t, "sent", sent, about(4, 1, c))
	mustDo(t, "sent", got, c)
}

func TestP16InvalidMessages(t *testing.T) {
	var list []impl.Msg
	for _, g := range goodMsgs() {
		for _, x := range msgsOff(g.msg) {
			if !modelMsgOk(x) {
				list = append(list, x)
			}
		}
	}
	list = append(list, badStored()...)
	list = append(list, fullMsg(), about(2, 0, claim(1, 0, impl.Req{})), askOf(impl.Req{}))
	for name, votes := range badVoteLists() {
		if name != "five" {
			list = append(list, leadOf(2, 2, votes...))
		}
	}
	for _, m := range list {
		for _, said := range [][]impl.Msg{nil, {m}} {
			if got, sent := hear(t, busyRep(), m, said); !isZeroRep(got) || len(sent) > 0 {
				t.Fatalf("%v: RepHear is %v, sent %v", m, got, sent)
			}
		}
	}
}

func TestP16Stored(t *testing.T) {
	for me := range keepers {
		for _, live := range []bool{true, false} {
			r := repIn(me, 3)
			r.Live = live
			r.Heard = crowd(3)
			for _, m := range []impl.Msg{about(3, 2, claim(1, 0, joinOf(1))), about(4, 2, claim(5, 6, impl.Req{})), turnOf(1, vote(0, claim(2, 0, joinOf(3)))), turnOf(6, vote(me))} {
				got, sent := hear(t, r, m, []impl.Msg{m})
				mustSend(t, "stored", sent)
				want := cloneRep(r)
				want.Heard = append(want.Heard, m)
				mustBeRep(t, "stored", got, want)
				mustIgnore(t, "stored already", got, m, []impl.Msg{m})
			}
			for _, m := range crowd(3) {
				mustIgnore(t, "stored already", r, m, []impl.Msg{m})
			}
		}
	}
}

func TestP16HeardMax(t *testing.T) {
	list := []impl.Msg{about(3, 2, claim(1, 0, joinOf(1))), about(4, 2, claim(5, 6, impl.Req{})), turnOf(1, vote(0))}
	for _, m := range list {
		r := repIn(3, 0)
		r.Heard = crowd(heardMax - 1)
		got, sent := hear(t, r, m, []impl.Msg{m})
		mustSend(t, "one place left", sent)
		if len(got.Heard) != heardMax || !modelSame(got.Heard[heardMax-1], m) {
			t.Fatalf("one place left: heard %v", got.Heard)
		}
		r.Heard = crowd(heardMax)
		mustIgnore(t, "no place left", r, m, []impl.Msg{m})
		mustIgnore(t, "no place left, there already", r, r.Heard[7], []impl.Msg{r.Heard[7]})
	}
}

// TestP16HeardMaxSends has replicas that cannot store what they send.
func TestP16HeardMaxSends(t *testing.T) {
	c := claim(1, 0, joinOf(1))
	said := append(asksFrom(joinOf(1)), offer(c))
	r := repIn(3, 0)
	r.Heard = crowd(heardMax)
	got, sent := hear(t, r, said[1], said)
	mustSend(t, "offer", sent, about(3, 3, c))
	want := cloneRep(r)
	want.Took = []impl.Claim{c}
	mustBeRep(t, "offer", got, want)
	r.Took = []impl.Claim{c}
	r.Heard = msgs(yesFrom(c, 1, 2), sureFrom(c, 0, 1), crowd(heardMax-4))
	for range 3 {
		sure := about(4, 2, c)
		got, sent = hear(t, r, sure, append(said, sure))
		mustSend(t, "prepared", sent, about(4, 3, c))
		mustBeRep(t, "prepared", got, r)
		r = got
	}
	r.Heard = without(r.Heard, 10)
	got, sent = hear(t, r, said[0], said)
	mustSend(t, "one place left", sent, about(4, 3, c))
	mustDo(t, "one place left", got, c)
	mustIgnore(t, "no place left, sure already", got, said[0], said)
}

func TestP16Ask(t *testing.T) {
	said := asksFrom(joinOf(1), joinOf(2), joinOf(3), joinOf(4))
	for view := 0; view <= lastView; view++ {
		leader := view % keepers
		r := repIn(leader, view)
		var all []impl.Msg
		for i := range clients {
			c := claim(1+i, view, joinOf(1+i))
			want := cloneRep(r)
			want.Took, want.Next = append(want.Took, c), i+2
			got, sent := hear(t, r, said[i], said)
			mustSend(t, "ask", sent, about(2, leader, c))
			mustBeRep(t, "ask", got, want)
			mustIgnore(t, "ask again", got, said[i], msgs(said, sent))
			r, all = got, append(all, sent...)
		}
		for _, m := range said {
			mustIgnore(t, "each ask again", r, m, msgs(said, all))
		}
		for _, k := range backups(view) {
			mustIgnore(t, "not the leader", repIn(k, view), said[0], said)
		}
		mustIgnore(t, "not live", leaving(leader, view), said[0], said)
	}
}

func TestP16AskNext(t *testing.T) {
	said := asksFrom(joinOf(1))
	for next := 1; next <= lastSeq+1; next++ {
		r := repIn(0, 4)
		r.Next = next
		if next > lastSeq {
			mustIgnore(t, "beyond SeqMax", r, said[0], said)
			continue
		}
		got, sent := hear(t, r, said[0], said)
		mustSend(t, "next", sent, about(2, 0, claim(next, 4, joinOf(1))))
		mustTake(t, "next", got, claim(next, 4, joinOf(1)))
		if got.Next != next+1 {
			t.Errorf("next after %d is %d", next, got.Next)
		}
	}
}

func TestP16AskTaken(t *testing.T) {
	said := asksFrom(joinOf(1), joinOf(2))
	r := repIn(1, 5)
	r.Next = 3
	r.Took = []impl.Claim{claim(1, 5, joinOf(3)), claim(2, 1, joinOf(1)), claim(3, 6, joinOf(1)), claim(2, 5, joinOf(2))}
	got, sent := hear(t, r, said[0], said)
	mustSend(t, "taken in other views", sent, about(2, 1, claim(3, 5, joinOf(1))))
	mustTake(t, "taken in other views", got, append(r.Took, claim(3, 5, joinOf(1)))...)
	mustIgnore(t, "taken in this view", r, said[1], said)
	for _, near := range reqsOff(impl.Req{Client: 2, Num: 3, Op: 5, X: 1, Y: 2}) {
		r.Took = []impl.Claim{claim(1, 5, near)}
		if !modelRepOk(r) {
			continue
		}
		ask := askOf(impl.Req{Client: 2, Num: 3, Op: 5, X: 1, Y: 2})
		_, sent = hear(t, r, ask, []impl.Msg{ask})
		mustSend(t, "another request taken", sent, about(2, 1, claim(3, 5, ask.Req)))
	}
}

// TestP16AskDone has a leader that had done the request in an earlier view: it offers it once more.
func TestP16AskDone(t *testing.T) {
	c := claim(1, 0, joinOf(1))
	r := repIn(1, 1)
	r.Took, r.Done = []impl.Claim{c}, []impl.Claim{c}
	_, sent := hear(t, r, askOf(joinOf(1)), asksFrom(joinOf(1)))
	mustSend(t, "done", sent, about(2, 1, claim(1, 1, joinOf(1))))
}

func TestP17Offer(t *testing.T) {
	said := asksFrom(joinOf(1), joinOf(2))
	for view := 0; view <= lastView; view++ {
		for seq := 1; seq <= lastSeq; seq++ {
			c := claim(seq, view, joinOf(2))
			all := append(slices.Clone(said), offer(c))
			for _, k := range backups(view) {
				r := repIn(k, view)
				got, sent := hear(t, r, offer(c), all)
				yes := about(3, k, c)
				mustSend(t, "offer", sent, yes)
				mustBeRep(t, "offer", got, impl.Rep{Me: k, View: view, Live: true, Next: 1, Took: []impl.Claim{c}, Heard: []impl.Msg{yes}})
				mustIgnore(t, "offer again", got, offer(c), append(all, yes))
				mustIgnore(t, "not live", leaving(k, view), offer(c), all)
			}
			mustIgnore(t, "the leader's own", repIn(view%keepers, view), offer(c), all)
		}
	}
}

func TestP17OfferOfAnotherView(t *testing.T) {
	for view := 0; view <= lastView; view++ {
		for other := 0; other <= lastView; other++ {
			for me := range keepers {
				c := claim(1, other, joinOf(1))
				for from := range keepers {
					m := about(2, from, c)
					said := append(asksFrom(joinOf(1)), m)
					if view != other || from != view%keepers || from == me {
						mustIgnore(t, "offer", repIn(me, view), m, said)
						continue
					}
					got, _ := hear(t, repIn(me, view), m, said)
					mustTake(t, "offer", got, c)
				}
			}
		}
	}
}

func TestP17SecondOffer(t *testing.T) {
	said := asksFrom(joinOf(1), joinOf(2))
	first, second := claim(2, 0, joinOf(1)), claim(2, 0, joinOf(2))
	said = append(said, offer(first), offer(second))
	r, _ := hear(t, repIn(3, 0), offer(first), said)
	mustIgnore(t, "another request at one place", r, offer(second), said)
	r, _ = hear(t, repIn(3, 0), offer(second), said)
	mustIgnore(t, "another request at one place, the other first", r, offer(first), said)
	null := repIn(3, 0)
	null.Took = []impl.Claim{claim(2, 0, impl.Req{})}
	mustIgnore(t, "null at that place", null, offer(first), said)
	near := repIn(3, 0)
	near.Took = []impl.Claim{claim(1, 0, joinOf(1)), claim(3, 0, joinOf(1)), claim(2, 1, joinOf(1)), claim(2, 4, joinOf(2))}
	got, sent := hear(t, near, offer(first), said)
	mustSend(t, "other places, one with this request", sent, about(3, 3, first))
	mustTake(t, "other places, one with this request", got, append(near.Took, first)...)
}

func TestP17OfferNotAsked(t *testing.T) {
	r := impl.Req{Client: 2, Num: 3, Op: 5, X: 1, Y: 2}
	c := claim(1, 0, r)
	mustIgnore(t, "no client sent anything", repIn(1, 0), offer(c), []impl.Msg{offer(c)})
	for _, x := range msgsOff(askOf(r)) {
		mustIgnore(t, "no client sent it", repIn(1, 0), offer(c), []impl.Msg{x, offer(c)})
		got, _ := hear(t, repIn(1, 0), offer(c), []impl.Msg{x, offer(c), askOf(r)})
		mustTake(t, "a client sent it", got, c)
	}
}

// TestP17OfferOfNext shows that Next of a replica that does not lead says nothing.
func TestP17OfferOfNext(t *testing.T) {
	c := claim(1, 0, joinOf(1))
	said := append(asksFrom(joinOf(1)), offer(c))
	for next := 1; next <= lastSeq+1; next++ {
		r := repIn(2, 0)
		r.Next = next
		got, _ := hear(t, r, offer(c), said)
		mustTake(t, "offer", got, c)
		if got.Next != next {
			t.Errorf("Next is %d, want %d", got.Next, next)
		}
	}
}

// took is the replica with the claim taken and these messages heard.
func took(r impl.Rep, c impl.Claim, heard ...impl.Msg) impl.Rep {
	r.Took = append(slices.Clone(r.Took), c)
	r.Heard = msgs(r.Heard, heard)
	return r
}

func TestP17Prepared(t *testing.T) {
	for _, c := range someClaims() {
		b := backups(c.View)
		for me := range keepers {
			r := took(repIn(me, c.View), c)
			one, sent := hearAll(t, r, nil, about(3, b[0], c))
			mustSend(t, "one yes", sent)
			_, sent = hearAll(t, one, nil, about(3, b[0], c), about(3, c.View%keepers, c))
			mustSend(t, "one yes, and the leader's", sent)
			got, sent := hearAll(t, one, nil, about(3, b[2], c))
			mustSend(t, "two yes", sent, about(4, me, c))
			mustBeRep(t, "two yes", got, took(repIn(me, c.View), c, about(3, b[0], c), about(3, b[2], c), about(4, me, c)))
			_, sent = hearAll(t, got, nil, about(3, b[1], c))
			mustSend(t, "sure is stored already", sent)
		}
	}
}

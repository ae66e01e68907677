package tests

import (
	"math"
	"slices"
	"strings"
	"testing"

	"loop.example/wapentake/impl"
)

func TestP21EachKindInABusyWorld(t *testing.T) {
	for bad := range keepers {
		w := busyWorld()
		w.Bad = bad
		for _, e := range eventsFor(bad) {
			mustDoEvent(t, "busy", w, e)
		}
	}
}

// TestP21ValidWorlds has events and rounds in valid worlds at each limit, which are possible or not.
func TestP21ValidWorlds(t *testing.T) {
	for name, w := range goodWorlds() {
		if strings.HasPrefix(name, "replica ") && w.Reps[0].Next != 1 {
			continue // There are many of them.
		}
		for _, e := range eventsFor(w.Bad) {
			do(t, w, e)
		}
		calm(t, w, 1)
	}
}

func TestP21Ask(t *testing.T) {
	for bad := range keepers {
		w := worldWith(bad)
		for _, r := range []impl.Req{joinOf(1), joinOf(4), {Client: 2, Num: numbers, Op: 5, X: 4, Y: 9}, {Client: 1, Num: 1, Op: 2, X: -1, Y: -1}} {
			next := mustDoEvent(t, "ask", w, askEvent(r))
			mustBeWorld(t, "ask", next, worldWith(bad, msgs(w.Said, asksFrom(r))...))
			mustNotDo(t, "asked already", next, askEvent(r))
			w = next
		}
		for _, m := range w.Said {
			mustNotDo(t, "asked before", w, askEvent(m.Req))
		}
		for _, r := range append(badAsks(), impl.Req{}) {
			mustNotDo(t, "invalid request", w, askEvent(r))
		}
	}
}

// TestP21AskTakesTheRequestOnly has events whose other fields and message would not be valid anywhere else.
func TestP21AskTakesTheRequestOnly(t *testing.T) {
	r := joinOf(2)
	want := worldWith(2, askOf(r))
	for kind := -1; kind <= kindMax+1; kind++ {
		e := impl.Event{Kind: 1, At: math.MinInt, To: -1, Msg: fullMsg()}
		e.Msg.Kind, e.Msg.Req = kind, r
		next := mustDoEvent(t, "ask", worldWith(2), e)
		mustBeWorld(t, "ask", next, want)
		mustNotDo(t, "asked already", next, e)
	}
	// A message of another kind, or from the same client, is no request that was sent.
	w := worldWith(2, offer(claim(1, 0, r)), askOf(joinOf(1)), askOf(impl.Req{Client: 2, Num: 2, Op: 1}))
	mustDoEvent(t, "offered and not asked", w, askEvent(r))
}

func TestP21Hear(t *testing.T) {
	a := claim(1, 0, joinOf(1))
	said := []impl.Msg{askOf(joinOf(1)), offer(a), about(3, 3, claim(2, 0, joinOf(1))), turnOf(1, vote(3))}
	for bad := range keepers {
		w := worldWith(bad, said...)
		for to := range keepers {
			for at, m := range said {
				if to == bad {
					mustNotDo(t, "Bad hears", w, hearEvent(at, to))
					continue
				}
				next := mustDoEvent(t, "hear", w, hearEvent(at, to))
				r, sent := impl.RepHear(repIn(to, 0), m, said)
				// The leader's offer is there.
				sent = slices.DeleteFunc(sent, func(m impl.Msg) bool { return equalMsg(m, offer(a)) })
				want := worldWith(bad, msgs(said, sent)...)
				want.Reps[to] = r
				mustBeWorld(t, "hear", next, want)
			}
			for _, at := range []int{-1, len(said), len(said) + 1, math.MinInt, math.MaxInt} {
				mustNotDo(t, "no such message", w, hearEvent(at, to))
			}
			mustNotDo(t, "nothing was sent", worldWith(bad), hearEvent(0, to))
		}
		for _, to := range notReplicas() {
			mustNotDo(t, "no replica hears", w, hearEvent(0, to))
			mustNotDo(t, "no replica turns", w, turnEvent(to))
		}
	}
}

// TestP21HearAnswers has the answers of a replica that leads and of one that does not.
func TestP21HearAnswers(t *testing.T) {
	a := claim(1, 0, joinOf(1))
	w := mustDoEvent(t, "leader", worldWith(3, askOf(joinOf(1))), hearEvent(0, 0))
	if !slices.EqualFunc(w.Said, []impl.Msg{askOf(joinOf(1)), offer(a)}, equalMsg) || w.Reps[0].Next != 2 {
		t.Fatalf("the leader hears a request: %v", w)
	}
	w = mustDoEvent(t, "other", w, hearEvent(1, 2))
	if len(w.Said) != 3 || !equalMsg(w.Said[2], about(3, 2, a)) {
		t.Fatalf("another hears the offer: %v", w)
	}
	mustTake(t, "other", w.Reps[2], a)
	next := mustDoEvent(t, "other again", w, hearEvent(1, 2))
	mustBeWorld(t, "other again", next, w)
}

func TestP21Turn(t *testing.T) {
	for bad := range keepers {
		for to := range keepers {
			w := worldWith(bad)
			if to == bad {
				mustNotDo(t, "Bad turns", w, turnEvent(to))
				continue
			}
			for view := 1; view <= lastView; view++ {
				next := mustDoEvent(t, "turn", w, turnEvent(to))
				m := turnOf(view, vote(to))
				want := cloneWorld(w)
				want.Said = append(want.Said, m)
				want.Reps[to] = leaving(to, view)
				want.Reps[to].Heard = append(cloneRep(w.Reps[to]).Heard, m)
				mustBeWorld(t, "turn", next, want)
				w = next
			}
			mustNotDo(t, "the last view", w, turnEvent(to))
			w.Reps[to].Live = true
			mustNotDo(t, "the last view, live", w, turnEvent(to))
		}
	}
}

// TestP21TurnOfALeader sends two messages at once.
func TestP21TurnOfALeader(t *testing.T) {
	w := worldWith(0)
	for _, k := range []int{2, 3} {
		w = mustDoEvent(t, "turn", w, turnEvent(k))
	}
	for at := range w.Said {
		w = mustDoEvent(t, "hear", w, hearEvent(at, 1))
	}
	w = mustDoEvent(t, "turn of the leader", w, turnEvent(1))
	want := []impl.Msg{turnOf(1, vote(2)), turnOf(1, vote(3)), turnOf(1, vote(1)), leadOf(1, 1, vote(1), vote(2), vote(3))}
	if !slices.EqualFunc(w.Said, want, equalMsg) || !w.Reps[1].Live {
		t.Fatalf("the leader turns: %v", w)
	}
}

func TestP21Fake(t *testing.T) {
	for bad := range keepers {
		w := worldWith(bad, askOf(joinOf(1)))
		for _, g := range goodMsgs() {
			if g.msg.Kind == 1 {
				mustNotDo(t, g.name, w, fakeEvent(g.msg))
				continue
			}
			for _, from := range []int{bad, (bad + 1) % keepers, -1, keepers, math.MaxInt} {
				m := cloneMsg(g.msg)
				m.From = from
				next := mustDoEvent(t, g.name, w, fakeEvent(m))
				m.From = bad
				mustBeWorld(t, g.name, next, worldWith(bad, askOf(joinOf(1)), m))
				mustNotDo(t, g.name+" sent already", next, fakeEvent(m))
				m.From = (bad + 2) % keepers
				mustNotDo(t, g.name+" sent already, but for From", next, fakeEvent(m))
			}
			m := cloneMsg(g.msg)
			m.From = (bad + 1) % keepers
			others := worldWith(bad, m)
			mustDoEvent(t, g.name+" sent by another", others, fakeEvent(m))
		}
	}
}

func TestP21FakeInvalid(t *testing.T) {
	w := worldWith(2)
	for _, m := range append(badStored(), fullMsg(), impl.Msg{}, impl.Msg{Kind: kindMax + 1}, impl.Msg{Kind: -1}) {
		x := m
		x.From = 2
		if !modelMsgOk(x) {
			mustNotDo(t, "invalid", w, fakeEvent(m))
		}
	}
	for _, g := range goodMsgs() {
		for _, m := range msgsOff(g.msg) {
			x := m
			x.From = 2
			if !modelMsgOk(x) {
				mustNotDo(t, g.name, w, fakeEvent(m))
			}
		}
	}
	for bad := range keepers {
		// That of replica 0 is a valid message.
		mustNotDo(t, "MsgAsk", worldWith(bad), fakeEvent(askOf(joinOf(1))))
		mustNotDo(t, "MsgAsk of nobody", worldWith(bad), fakeEvent(askOf(impl.Req{})))
		for _, r := range badAsks() {
			mustNotDo(t, "invalid request", worldWith(bad), fakeEvent(about(3, bad, claim(1, 0, r))))
		}
		mustNotDo(t, "offer of null", worldWith(bad), fakeEvent(about(2, bad, claim(1, 0, impl.Req{}))))
	}
}

// TestP21FakeTakesTheMessageOnly has events with fields that the kind does not read; so do the other kinds.
func TestP21FakeTakesTheMessageOnly(t *testing.T) {
	m := about(3, 1, claim(2, 3, joinOf(1)))
	e := fakeEvent(m)
	e.At, e.To = -5, keepers
	w := mustDoEvent(t, "fake", worldWith(1), e)
	mustBeWorld(t, "fake", w, worldWith(1, m))
	e = hearEvent(0, 2)
	e.Msg = fullMsg()
	mustDoEvent(t, "hear", w, e)
	e = turnEvent(2)
	e.At, e.Msg = math.MaxInt, fullMsg()
	mustDoEvent(t, "turn", w, e)
}

func TestP21NoKind(t *testing.T) {
	for _, kind := range []int{0, -1, 5, 6, math.MinInt, math.MaxInt} {
		for bad := range keepers {
			for _, e := range eventsFor(bad) {
				e.Kind = kind
				mustNotDo(t, "no kind", worldWith(bad, askOf(joinOf(1))), e)
			}
			mustNotDo(t, "no kind", worldWith(bad), impl.Event{Kind: kind})
		}
	}
}

// TestP21SentAlready has replicas whose answers are there already: they change, and nothing is added.
func TestP21SentAlready(t *testing.T) {
	a := claim(1, 0, joinOf(1))
	said := []impl.Msg{askOf(joinOf(1)), offer(a), about(3, 1, a), about(3, 2, a), turnOf(1, vote(3))}
	for _, x := range []struct {
		e  impl.Event
		to int
	}{{hearEvent(0, 0), 0}, {hearEvent(1, 1), 1}, {hearEvent(1, 2), 2}, {turnEvent(3), 3}} {
		for bad := range keepers {
			if bad == x.to {
				continue
			}
			w := mustDoEvent(t, "sent already", worldWith(bad, said...), x.e)
			if len(w.Said) != len(said) || equalRep(w.Reps[x.to], repIn(x.to, 0)) {
				t.Fatalf("%v: the world is %v", x.e, w)
			}
		}
	}
	// One of two answers is there.
	w := worldWith(0, turnOf(1, vote(1)), turnOf(1, vote(2)), turnOf(1, vote(3)))
	w.Reps[1].Heard = cloneMsgs(w.Said[1:])
	w = mustDoEvent(t, "one is there", w, turnEvent(1))
	if len(w.Said) != 4 || !equalMsg(w.Said[3], leadOf(1, 1, vote(1), vote(2), vote(3))) {
		t.Fatalf("one is there: %v", w)
	}
}

// fullWorld is a world in which n more messages have room, beside these.
func fullWorld(bad, n int, said ...impl.Msg) impl.World {
	return worldWith(bad, msgs(said, asksFrom(someAsks(saidMax-n-len(said))...))...)
}

func TestP21SaidMax(t *testing.T) {
	a, r := claim(1, 0, joinOf(1)), impl.Req{Client: 4, Num: numbers, Op: 1}
	said := []impl.Msg{askOf(joinOf(1)), offer(a), turnOf(1, vote(2)), about(4, 3, a)}
	m := about(3, 3, claim(2, 2, joinOf(2)))
	for _, e := range []impl.Event{askEvent(r), fakeEvent(m), hearEvent(len(said), 0), hearEvent(1, 1), hearEvent(1, 2), turnEvent(0), turnEvent(1)} {
		one := mustDoEvent(t, "one has room", fullWorld(3, 1, said...), e)
		if len(one.Said) != saidMax {
			t.Fatalf("%v: %d messages", e, len(one.Said))
		}
		mustNotDo(t, "none has room", fullWorld(3, 0, said...), e)
	}
	for _, e := range []impl.Event{hearEvent(2, 1), hearEvent(3, 2), hearEvent(0, 1), hearEvent(saidMax-1, 2)} {
		w := mustDoEvent(t, "nothing is sent", fullWorld(3, 0, said...), e)
		if len(w.Said) != saidMax {
			t.Fatalf("%v: %d messages", e, len(w.Said))
		}
	}
	w := fullWorld(3, 0, msgs(said, yesFrom(a, 1))...)
	w = mustDoEvent(t, "sent already", w, hearEvent(1, 1))
	mustTake(t, "sent already", w.Reps[1], a)
}

// TestP21SaidMaxForTwo has a turn that sends two messages: both or none.
func TestP21SaidMaxForTwo(t *testing.T) {
	turns := turnsFor(1, 2, 3)
	for room, possible := range []bool{false, false, true, true} {
		w := fullWorld(0, room, turns...)
		w.Reps[1].Heard = cloneMsgs(turns)
		if !possible {
			mustNotDo(t, "no room for both", w, turnEvent(1))
			continue
		}
		next := mustDoEvent(t, "room for both", w, turnEvent(1))
		if len(next.Said) != saidMax-room+2 || !next.Reps[1].Live || next.Reps[1].View != 1 {
			t.Fatalf("room for both: %v", next)
		}
	}
	// One of the two is there already, so that there is room.
	w := fullWorld(0, 1, append(turns, turnOf(1, vote(1)))...)
	w.Reps[1].Heard = cloneMsgs(turns)
	w = mustDoEvent(t, "room for one, and the other is there", w, turnEvent(1))
	if len(w.Said) != saidMax || !w.Reps[1].Live {
		t.Fatalf("room for one, and the other is there: %v", w)
	}
}

// TestP21SentTwice has a replica that takes a claim twice, and that cannot store that it is sure: it sends that twice. Play cannot reach it.
func TestP21SentTwice(t *testing.T) {
	w := worldWith(3, leadSaidAgain()...)
	later := claim(1, 1, joinOf(1))
	w.Reps[0].Took = []impl.Claim{later}
	w.Reps[0].Heard = append(yesFrom(later, 2, 3), crowd(heardMax-2)...)
	at := len(w.Said) - 1
	got := mustDoEvent(t, "sure twice", w, hearEvent(at, 0))
	_, sent := impl.RepHear(w.Reps[0], w.Said[at], w.Said)
	mustSend(t, "sure twice", sent, about(3, 0, later), about(4, 0, later), about(4, 0, later))
	if len(got.Said) != len(w.Said)+2 || !equalMsg(got.Said[at+2], about(4, 0, later)) {
		t.Fatalf("sent %v", got.Said[at+1:])
	}
	if impl.WorldOk(got) {
		t.Fatalf("the replica took one claim twice and is valid: %v", got.Reps[0])
	}
	next, done := do(t, got, hearEvent(0, 1))
	mustBeZeroWorld(t, "no event is possible any more", next)
	if done {
		t.Fatal("an event is possible in an invalid world")
	}
}

// leadSaidAgain is a good MsgLead of view 1 that picks a request, and what makes it good.
func leadSaidAgain() []impl.Msg {
	cert := certify(1, vote(0, claim(1, 0, joinOf(1))), vote(1), vote(2))
	return append(cert.said, leadOf(1, 1, cert.votes...))
}

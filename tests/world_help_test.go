package tests

import (
	"fmt"
	"slices"
	"testing"

	"loop.example/wapentake/impl"
)

// The limits of worlds as the document gives them.
const (
	saidMax = 100
	playMax = 90
	calmMax = 3
)

func askEvent(r impl.Req) impl.Event {
	return impl.Event{Kind: 1, Msg: impl.Msg{Req: r}}
}

func hearEvent(at, to int) impl.Event {
	return impl.Event{Kind: 2, At: at, To: to}
}

func turnEvent(to int) impl.Event {
	return impl.Event{Kind: 3, To: to}
}

func fakeEvent(m impl.Msg) impl.Event {
	return impl.Event{Kind: 4, Msg: m}
}

// worldWith is the initial world after these messages were sent and nobody has received one.
func worldWith(bad int, said ...impl.Msg) impl.World {
	w := impl.World{Bad: bad, Said: said}
	for me := range keepers {
		w.Reps = append(w.Reps, repIn(me, 0))
	}
	return w
}

func cloneWorld(w impl.World) impl.World {
	out := impl.World{Bad: w.Bad, Said: cloneMsgs(w.Said)}
	for _, r := range w.Reps {
		out.Reps = append(out.Reps, cloneRep(r))
	}
	return out
}

func isZeroWorld(w impl.World) bool {
	return w.Bad == 0 && len(w.Reps) == 0 && len(w.Said) == 0
}

func equalVote(a, b impl.Vote) bool {
	return a.From == b.From && slices.Equal(a.Claims, b.Claims)
}

// equalMsg is modelSame without the text, which takes long for whole worlds.
func equalMsg(a, b impl.Msg) bool {
	return a.Kind == b.Kind && a.From == b.From && a.View == b.View && a.Seq == b.Seq && a.Req == b.Req &&
		slices.Equal(a.Claims, b.Claims) && slices.EqualFunc(a.Votes, b.Votes, equalVote)
}

func equalRep(a, b impl.Rep) bool {
	return a.Me == b.Me && a.View == b.View && a.Live == b.Live && a.Next == b.Next &&
		slices.Equal(a.Took, b.Took) && slices.EqualFunc(a.Heard, b.Heard, equalMsg) && slices.Equal(a.Done, b.Done)
}

func equalWorld(a, b impl.World) bool {
	return a.Bad == b.Bad && slices.EqualFunc(a.Reps, b.Reps, equalRep) && slices.EqualFunc(a.Said, b.Said, equalMsg)
}

func mustBeWorld(t *testing.T, name string, got, want impl.World) {
	t.Helper()
	if !equalWorld(got, want) {
		t.Fatalf("%s: the world is\n%v\nwant\n%v", name, got, want)
	}
}

func mustBeZeroWorld(t *testing.T, name string, w impl.World) {
	t.Helper()
	if !isZeroWorld(w) {
		t.Fatalf("%s: the world is %v, want the zero one", name, w)
	}
}

func roomyWorld(w impl.World) impl.World {
	w.Reps = roomy(w.Reps, impl.Rep{Me: -7})
	for i := range w.Reps {
		w.Reps[i] = roomyRep(w.Reps[i])
	}
	w.Said = roomyMsgs(w.Said)
	return w
}

func wholeWorld(w impl.World) string {
	h := &memory{}
	h.addWorld(w)
	return fmt.Sprint(w.Bad, *h)
}

// ownWorld calls f with a world that has something in its spare capacity. It fails if f changes the world, or if the result shares memory with it or with itself.
func ownWorld(t *testing.T, w impl.World, f func(w impl.World) impl.World) impl.World {
	t.Helper()
	arg := roomyWorld(w)
	got := f(arg)
	out := cloneWorld(got)
	h := &memory{}
	h.addWorld(got)
	h.mustBeApart(t)
	if wholeWorld(arg) != wholeWorld(roomyWorld(w)) {
		t.Fatalf("%v: the argument is changed, or shares memory with the result", w)
	}
	return out
}

// do is WorldDo, held against the model, promise 21, and the rules for arguments and results.
func do(t *testing.T, w impl.World, e impl.Event) (impl.World, bool) {
	t.Helper()
	var done bool
	argMsg := roomyMsg(e.Msg)
	got := ownWorld(t, w, func(arg impl.World) impl.World {
		out, ok := impl.WorldDo(arg, impl.Event{Kind: e.Kind, At: e.At, To: e.To, Msg: argMsg})
		done = ok
		return out
	})
	if wholeText(impl.Rep{}, argMsg) != wholeText(impl.Rep{}, roomyMsg(e.Msg)) {
		t.Fatalf("%v: the message of the event is changed, or shares memory with the result", e)
	}
	want, wantDone := modelDo(w, e)
	if done != wantDone || !equalWorld(got, want) {
		t.Fatalf("%v\nin %v:\ngot  %v %v\nwant %v %v", e, w, got, done, want, wantDone)
	}
	if modelWorldOk(w) {
		checkP21(t, w, e, got, done)
	}
	return got, done
}

// checkP21 looks at what the promise says: a failed event changes nothing, and no event takes back a message or changes Bad.
func checkP21(t *testing.T, w impl.World, e impl.Event, got impl.World, done bool) {
	t.Helper()
	if !done {
		mustBeWorld(t, fmt.Sprintf("%v is not possible", e), got, w)
		return
	}
	if len(got.Said) < len(w.Said) || !slices.EqualFunc(got.Said[:len(w.Said)], w.Said, equalMsg) || len(got.Said) > saidMax {
		t.Fatalf("%v: sent before %v, and now %v", e, w.Said, got.Said)
	}
	for i := len(w.Said); i < len(got.Said); i++ {
		if impl.SaidHas(got.Said[:i], got.Said[i]) {
			t.Fatalf("%v: %v is added, and was there", e, got.Said[i])
		}
	}
	if got.Bad != w.Bad || !equalRep(got.Reps[w.Bad], w.Reps[w.Bad]) {
		t.Fatalf("%v: replica %d becomes %v", e, w.Bad, got.Reps[w.Bad])
	}
	for k := range keepers {
		if !(e.Kind == 2 || e.Kind == 3) || e.To != k {
			mustBeRep(t, fmt.Sprintf("%v does not happen to %d", e, k), got.Reps[k], w.Reps[k])
		}
	}
}

func mustDoEvent(t *testing.T, name string, w impl.World, e impl.Event) impl.World {
	t.Helper()
	got, done := do(t, w, e)
	if !done {
		t.Fatalf("%s: %v is not possible", name, e)
	}
	return got
}

func mustNotDo(t *testing.T, name string, w impl.World, e impl.Event) {
	t.Helper()
	got, done := do(t, w, e)
	if done {
		t.Fatalf("%s: %v is possible", name, e)
	}
	mustBeWorld(t, name, got, w)
}

func calm(t *testing.T, w impl.World, rounds int) impl.World {
	t.Helper()
	got := ownWorld(t, w, func(arg impl.World) impl.World { return impl.WorldCalm(arg, rounds) })
	if want := modelCalm(w, rounds); !equalWorld(got, want) {
		t.Fatalf("%d rounds\nin %v:\ngot  %v\nwant %v", rounds, w, got, want)
	}
	return got
}

// run is a world and the events that made it.
type run struct {
	t    *testing.T
	w    impl.World
	list []impl.Event
}

func newRun(t *testing.T, bad int) *run {
	t.Helper()
	return &run{t: t, w: impl.WorldNew(bad)}
}

func (p *run) event(e impl.Event) {
	p.t.Helper()
	p.w = mustDoEvent(p.t, "run", p.w, e)
	p.list = append(p.list, e)
}

func (p *run) ask(list ...impl.Req) {
	p.t.Helper()
	for _, r := range list {
		p.event(askEvent(r))
	}
}

func (p *run) fake(list ...impl.Msg) {
	p.t.Helper()
	for _, m := range list {
		p.event(fakeEvent(m))
	}
}

func (p *run) turn(to ...int) {
	p.t.Helper()
	for _, k := range to {
		p.event(turnEvent(k))
	}
}

func (p *run) hear(m impl.Msg, to ...int) {
	p.t.Helper()
	at := slices.IndexFunc(p.w.Said, func(x impl.Msg) bool { return equalMsg(x, m) })
	if at < 0 {
		p.t.Fatalf("%v was not sent: %v", m, p.w.Said)
	}
	for _, k := range to {
		p.event(hearEvent(at, k))
	}
}

func (p *run) hearAll(list []impl.Msg, to ...int) {
	p.t.Helper()
	for _, m := range list {
		p.hear(m, to...)
	}
}

// end checks what holds after each run: the events make this world, and promises 22 to 26. It returns the world when all is heard.
func (p *run) end() impl.World {
	p.t.Helper()
	mustBeWorld(p.t, "WorldPlay", impl.WorldPlay(p.w.Bad, p.list), p.w)
	checkPlayed(p.t, p.w)
	after := calm(p.t, p.w, calmMax)
	checkP23(p.t, after)
	return after
}

func (p *run) mustHaveDone(want ...impl.Claim) {
	p.t.Helper()
	for k := range keepers {
		if k != p.w.Bad {
			mustDo(p.t, fmt.Sprint("replica ", k), p.w.Reps[k], want...)
		}
	}
}

func mustHaveListed(t *testing.T, name string, w impl.World, want ...impl.Req) {
	t.Helper()
	for k := range keepers {
		if got := impl.RepList(w.Reps[k]); k != w.Bad && !slices.Equal(got, want) {
			t.Fatalf("%s: replica %d has done %v, want %v", name, k, got, want)
		}
	}
}

// checkPlayed is what promises 23, 25 and 26 say of a world after WorldPlay.
func checkPlayed(t *testing.T, w impl.World) {
	t.Helper()
	checkP23(t, w)
	checkP25(t, w)
	checkP26(t, w)
}

// checkP23 does not rely on WorldAgree alone, which could be wrong.
func checkP23(t *testing.T, w impl.World) {
	t.Helper()
	if !impl.WorldOk(w) || !modelWorldOk(w) {
		t.Fatalf("not valid: %v", w)
	}
	if !impl.WorldAgree(w) || !modelAgree(w) {
		t.Fatalf("WorldAgree is %v, the model says %v: %v", impl.WorldAgree(w), modelAgree(w), w)
	}
}

func checkP25(t *testing.T, w impl.World) {
	t.Helper()
	for _, r := range w.Reps {
		for _, c := range r.Done {
			if r.Me != w.Bad && !impl.ClaimDone(w.Said, c) {
				t.Fatalf("replica %d has done %v, which is not committed in %v", r.Me, c, w.Said)
			}
		}
	}
	for _, m := range w.Said {
		if c := claim(m.Seq, m.View, m.Req); m.Kind == 4 && m.From != w.Bad && !impl.ClaimReady(w.Said, c) {
			t.Fatalf("%v is sent, and not prepared in %v", m, w.Said)
		}
	}
}

func checkP26(t *testing.T, w impl.World) {
	t.Helper()
	ready := map[impl.Claim]impl.Req{}
	for _, m := range w.Said {
		c := claim(m.Seq, m.View, m.Req)
		if m.Kind != 3 || !impl.ClaimReady(w.Said, c) {
			continue
		}
		place := claim(m.Seq, m.View, impl.Req{})
		if r, ok := ready[place]; ok && r != m.Req {
			t.Fatalf("%v and %v are prepared in %v", r, c, w.Said)
		}
		ready[place] = m.Req
	}
}

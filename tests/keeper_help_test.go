package tests

import (
	"fmt"
	"slices"
	"testing"

	"loop.example/wapentake/impl"
)

// The limits of replicas as the document gives them.
const (
	tookMax  = 40
	heardMax = 120
)

func askOf(r impl.Req) impl.Msg {
	return impl.Msg{Kind: 1, Req: r}
}

func asksFrom(list ...impl.Req) []impl.Msg {
	var said []impl.Msg
	for _, r := range list {
		said = append(said, askOf(r))
	}
	return said
}

func msgs(lists ...[]impl.Msg) []impl.Msg {
	return slices.Concat(lists...)
}

// repIn is a replica in the view, as if it had just entered it and nothing had been picked.
func repIn(me, view int) impl.Rep {
	return impl.Rep{Me: me, View: view, Live: true, Next: 1}
}

// leaving is a replica that has left for the view and has not entered it.
func leaving(me, view int) impl.Rep {
	return impl.Rep{Me: me, View: view, Next: 1}
}

func cloneRep(r impl.Rep) impl.Rep {
	r.Took = slices.Clone(r.Took)
	r.Heard = cloneMsgs(r.Heard)
	r.Done = slices.Clone(r.Done)
	return r
}

func sameRep(a, b impl.Rep) bool {
	return fmt.Sprint(a) == fmt.Sprint(b)
}

func sameMsgs(a, b []impl.Msg) bool {
	return fmt.Sprint(a) == fmt.Sprint(b)
}

func isZeroRep(r impl.Rep) bool {
	return sameRep(r, impl.Rep{})
}

// roomy is a copy of the list with spare capacity, in which there is something that nobody may write over.
func roomy[T any](list []T, inSpare T) []T {
	return append(slices.Clone(list), inSpare, inSpare, inSpare)[:len(list)]
}

func roomyClaims(list []impl.Claim) []impl.Claim {
	return roomy(list, claim(-7, -7, impl.Req{Client: -7}))
}

func roomyMsg(m impl.Msg) impl.Msg {
	m.Claims = roomyClaims(m.Claims)
	m.Votes = roomy(m.Votes, vote(-7))
	for i := range m.Votes {
		m.Votes[i].Claims = roomyClaims(m.Votes[i].Claims)
	}
	return m
}

func roomyMsgs(list []impl.Msg) []impl.Msg {
	out := roomy(list, impl.Msg{Kind: -7})
	for i := range out {
		out[i] = roomyMsg(out[i])
	}
	return out
}

func roomyRep(r impl.Rep) impl.Rep {
	r.Took = roomyClaims(r.Took)
	r.Heard = roomyMsgs(r.Heard)
	r.Done = roomyClaims(r.Done)
	return r
}

// memory is every slice that a value holds, each with its spare capacity.
type memory struct {
	claims [][]impl.Claim
	votes  [][]impl.Vote
	msgs   [][]impl.Msg
	reps   [][]impl.Rep
}

func (h *memory) addClaims(list []impl.Claim) {
	h.claims = append(h.claims, list[:cap(list)])
}

func (h *memory) addMsgs(list []impl.Msg) {
	h.msgs = append(h.msgs, list[:cap(list)])
	for _, m := range list[:cap(list)] {
		h.addClaims(m.Claims)
		h.votes = append(h.votes, m.Votes[:cap(m.Votes)])
		for _, v := range m.Votes[:cap(m.Votes)] {
			h.addClaims(v.Claims)
		}
	}
}

func (h *memory) addRep(r impl.Rep) {
	h.addClaims(r.Took)
	h.addMsgs(r.Heard)
	h.addClaims(r.Done)
}

func (h *memory) addWorld(w impl.World) {
	h.reps = append(h.reps, w.Reps[:cap(w.Reps)])
	for _, r := range w.Reps[:cap(w.Reps)] {
		h.addRep(r)
	}
	h.addMsgs(w.Said)
}

// marks calls visit with each number in memory, and with a mark that is another one for each slice.
func (h *memory) marks(visit func(n *int, mark int)) {
	for i, list := range h.claims {
		for j := range list {
			visit(&list[j].Seq, 1000+i)
		}
	}
	for i, list := range h.votes {
		for j := range list {
			visit(&list[j].From, 1000+i)
		}
	}
	for i, list := range h.msgs {
		for j := range list {
			visit(&list[j].Seq, 1000+i)
		}
	}
	for i, list := range h.reps {
		for j := range list {
			visit(&list[j].Next, 1000+i)
		}
	}
}

// mustBeApart writes into all slices of a result, and fails if two of them share memory.
func mustBeApart(t *testing.T, r impl.Rep, sent []impl.Msg) {
	t.Helper()
	h := &memory{}
	h.addRep(r)
	h.addMsgs(sent)
	h.mustBeApart(t)
}

func (h *memory) mustBeApart(t *testing.T) {
	t.Helper()
	h.marks(func(n *int, mark int) { *n = mark })
	h.marks(func(n *int, mark int) {
		if *n != mark {
			t.Fatalf("two slices of a result share memory")
		}
	})
}

func wholeText(r impl.Rep, list ...impl.Msg) string {
	h := &memory{}
	h.addRep(r)
	h.addMsgs(list)
	return fmt.Sprint(*h)
}

// hear is RepHear, held against the model, the promises and the rules for arguments and results.
func hear(t *testing.T, r impl.Rep, m impl.Msg, said []impl.Msg) (impl.Rep, []impl.Msg) {
	t.Helper()
	argRep, argMsg, argSaid := roomyRep(r), roomyMsg(m), roomyMsgs(said)
	got, sent := impl.RepHear(argRep, argMsg, argSaid)
	want, wantSent := modelHear(r, m, said)
	if !sameRep(got, want) || !sameMsgs(sent, wantSent) {
		t.Fatalf("%v\nhears %v\nin %v:\ngot  %v\nsent %v\nwant %v\nsent %v", r, m, said, got, sent, want, wantSent)
	}
	if modelRepOk(r) && modelMsgOk(m) {
		checkP16(t, r, m, said, got, sent)
		checkP17(t, r, got, sent)
	}
	outRep, outSent := cloneRep(got), cloneMsgs(sent)
	mustBeApart(t, got, sent)
	if wholeText(argRep, append(argSaid[:cap(argSaid)], argMsg)...) != wholeText(roomyRep(r), append(roomyMsgs(said)[:cap(argSaid)], roomyMsg(m))...) {
		t.Fatalf("%v\nhears %v: an argument is changed, or shares memory with the result", r, m)
	}
	return outRep, outSent
}

// turn is RepTurn, held against the same.
func turn(t *testing.T, r impl.Rep, said []impl.Msg) (impl.Rep, []impl.Msg) {
	t.Helper()
	argRep, argSaid := roomyRep(r), roomyMsgs(said)
	got, sent := impl.RepTurn(argRep, argSaid)
	want, wantSent := modelTurn(r, said)
	if !sameRep(got, want) || !sameMsgs(sent, wantSent) {
		t.Fatalf("%v\nturns in %v:\ngot  %v\nsent %v\nwant %v\nsent %v", r, said, got, sent, want, wantSent)
	}
	if modelRepOk(r) {
		checkP17(t, r, got, sent)
		checkP18(t, r, got, sent)
	}
	outRep, outSent := cloneRep(got), cloneMsgs(sent)
	mustBeApart(t, got, sent)
	if wholeText(argRep, argSaid[:cap(argSaid)]...) != wholeText(roomyRep(r), roomyMsgs(said)[:cap(argSaid)]...) {
		t.Fatalf("%v\nturns: an argument is changed, or shares memory with the result", r)
	}
	return outRep, outSent
}

// hearAll is the replica when it has received these messages, which with said are all that was sent, and what it sent.
func hearAll(t *testing.T, r impl.Rep, said []impl.Msg, list ...impl.Msg) (impl.Rep, []impl.Msg) {
	t.Helper()
	all := msgs(said, list)
	var sent []impl.Msg
	for _, m := range list {
		next, more := hear(t, r, m, all)
		r, sent = next, append(sent, more...)
	}
	return r, sent
}

func mustSend(t *testing.T, name string, sent []impl.Msg, want ...impl.Msg) {
	t.Helper()
	if !sameMsgs(sent, want) {
		t.Fatalf("%s: sent %v, want %v", name, sent, want)
	}
}

func mustBeRep(t *testing.T, name string, got, want impl.Rep) {
	t.Helper()
	if !sameRep(got, want) {
		t.Fatalf("%s: the replica is %v, want %v", name, got, want)
	}
}

func mustTake(t *testing.T, name string, r impl.Rep, want ...impl.Claim) {
	t.Helper()
	if !slices.Equal(r.Took, want) {
		t.Fatalf("%s: took %v, want %v", name, r.Took, want)
	}
}

func mustDo(t *testing.T, name string, r impl.Rep, want ...impl.Claim) {
	t.Helper()
	if !slices.Equal(r.Done, want) {
		t.Fatalf("%s: done %v, want %v", name, r.Done, want)
	}
}

// mustIgnore fails if hearing the message changes the replica or makes it send something.
func mustIgnore(t *testing.T, name string, r impl.Rep, m impl.Msg, said []impl.Msg) {
	t.Helper()
	got, sent := hear(t, r, m, said)
	mustSend(t, name, sent)
	mustBeRep(t, name, got, r)
}

// checkP16 looks at what the promise says, and at nothing else; so do the next two.
func checkP16(t *testing.T, r impl.Rep, m impl.Msg, said []impl.Msg, got impl.Rep, sent []impl.Msg) {
	t.Helper()
	if !impl.SaidHas(said, m) && (!sameRep(got, r) || len(sent) > 0) {
		t.Fatalf("%v changes by %v, which was not sent", r, m)
	}
	for _, s := range sent {
		if !impl.MsgOk(s) || s.From != r.Me || s.Kind == 1 {
			t.Fatalf("%v sends %v", r, s)
		}
	}
	if got.View < r.View || len(got.Took) < len(r.Took) || !slices.Equal(got.Took[:len(r.Took)], r.Took) {
		t.Fatalf("%v goes back to %v", r, got)
	}
	for _, c := range r.Done {
		if !slices.Contains(got.Done, c) {
			t.Fatalf("%v loses %v", r, c)
		}
	}
}

func checkP17(t *testing.T, r, got impl.Rep, sent []impl.Msg) {
	t.Helper()
	for _, s := range sent {
		onClaim := s.Kind == 3 || s.Kind == 4
		if onClaim && !slices.Contains(got.Took, claim(s.Seq, s.View, s.Req)) {
			t.Fatalf("%v sends %v and did not take it", r, s)
		}
		if s.Kind == 3 && s.View%keepers == r.Me {
			t.Fatalf("%v sends %v and leads the view", r, s)
		}
	}
	seen := map[int]bool{}
	for _, c := range got.Took[len(r.Took):] {
		if seen[c.Seq] {
			t.Fatalf("%v takes two claims of one number: %v", r, got.Took)
		}
		seen[c.Seq] = true
	}
}

func checkP18(t *testing.T, r, got impl.Rep, sent []impl.Msg) {
	t.Helper()
	if r.View == lastView {
		if !sameRep(got, r) || len(sent) > 0 {
			t.Fatalf("%v turns from the last view: %v, sent %v", r, got, sent)
		}
		return
	}
	if len(sent) == 0 || sent[0].Kind != 5 || sent[0].From != r.Me || sent[0].View != r.View+1 || !impl.MsgOk(sent[0]) {
		t.Fatalf("%v turns and sends %v", r, sent)
	}
	if got.View != r.View+1 || len(got.Took) < len(r.Took) || !slices.Equal(got.Took[:len(r.Took)], r.Took) {
		t.Fatalf("%v turns to %v", r, got)
	}
}

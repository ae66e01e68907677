package tests

import (
	"fmt"
	"testing"

	"loop.example/wapentake/impl"
)

func wholeMsg(m impl.Msg) string {
	return wholeText(impl.Rep{}, m)
}

// msgPut is MsgPut, held against the model and promise 45.
func msgPut(t *testing.T, m impl.Msg) string {
	t.Helper()
	arg := roomyMsg(m)
	got, want := impl.MsgPut(arg), modelMsgPut(m)
	if got != want {
		t.Fatalf("MsgPut(%v) is %q, want %q", m, got, want)
	}
	if wholeMsg(arg) != wholeMsg(roomyMsg(m)) {
		t.Fatalf("MsgPut changes %v", m)
	}
	if (got == "") == impl.MsgOk(m) {
		t.Fatalf("MsgPut(%v) is %q, and MsgOk is %v", m, got, impl.MsgOk(m))
	}
	if got == "" {
		return got
	}
	if back, ok := msgGet(t, got); !ok || !impl.MsgSame(back, m) {
		t.Fatalf("%v is read back as %v %v", m, back, ok)
	}
	return got
}

// msgGet is MsgGet, held against the model, promise 46, and the rules for results.
func msgGet(t *testing.T, s string) (impl.Msg, bool) {
	t.Helper()
	got, ok := impl.MsgGet(s)
	want, wantOk := modelMsgGet(s)
	if ok != wantOk || fmt.Sprint(got) != fmt.Sprint(want) {
		t.Fatalf("MsgGet(%q)\nis   %v %v\nwant %v %v", s, got, ok, want, wantOk)
	}
	if ok && (impl.MsgPut(got) != s || !impl.MsgOk(got)) {
		t.Fatalf("MsgGet takes %q, which is written as %q", s, impl.MsgPut(got))
	}
	kept := cloneMsg(got)
	h := &memory{}
	h.addMsgs([]impl.Msg{got})
	h.mustBeApart(t)
	return kept, ok
}

func mustNotReadMsg(t *testing.T, s string) {
	t.Helper()
	if m, ok := msgGet(t, s); ok {
		t.Errorf("MsgGet(%q) is %v", s, m)
	}
}

// codedMsg is a message with its text.
type codedMsg struct {
	msg  impl.Msg
	text string
}

// codedMsgs is a message of each kind, with and without claims and votes.
func codedMsgs() []codedMsg {
	move := impl.Req{Client: 3, Num: 30, Op: 2, X: -1, Y: 1}
	give := impl.Req{Client: 4, Num: 12, Op: 5, X: 2, Y: 9}
	hit := impl.Req{Client: 1, Num: 2, Op: 4, X: 4}
	null := impl.Req{}
	return []codedMsg{
		{askOf(move), "ask 0 0 0 3 30 move -1 1\n"},
		{about(2, 3, claim(5, 6, give)), "offer 3 6 5 4 12 give 2 9\n"},
		{about(3, 1, claim(2, 4, joinOf(2))), "yes 1 4 2 2 1 join 0 0\n"},
		{about(3, 2, claim(1, 0, null)), "yes 2 0 1 none\n"},
		{about(4, 0, claim(3, 5, hit)), "sure 0 5 3 1 2 hit 4 0\n"},
		{about(4, 3, claim(4, 6, null)), "sure 3 6 4 none\n"},
		{turnOf(2, vote(1)), "turn 1 2 0 none\n"},
		{turnOf(0, vote(3, claim(5, 1, null))), "turn 3 0 0 none\nclaim 5 1 none\n"},
		{
			turnOf(3, vote(0, claim(1, 2, move), claim(2, 0, null), claim(4, 6, joinOf(1)))),
			"turn 0 3 0 none\nclaim 1 2 3 30 move -1 1\nclaim 2 0 none\nclaim 4 6 1 1 join 0 0\n",
		},
		{leadOf(2, 6), "lead 2 6 0 none\n"},
		{leadOf(1, 5, vote(3)), "lead 1 5 0 none\nvote 3\n"},
		{leadOf(0, 4, vote(0), vote(1), vote(2), vote(3)), "lead 0 4 0 none\nvote 0\nvote 1\nvote 2\nvote 3\n"},
		{
			leadOf(1, 1, vote(0, claim(1, 0, give), claim(3, 0, null)), vote(1), vote(3, claim(2, 6, hit))),
			"lead 1 1 0 none\nvote 0\nclaim 1 0 4 12 give 2 9\nclaim 3 0 none\nvote 1\nvote 3\nclaim 2 6 1 2 hit 4 0\n",
		},
		{
			leadOf(3, 3, vote(0), vote(2, claim(1, 2, joinOf(1))), vote(3, claim(1, 2, joinOf(1)), claim(5, 0, null))),
			"lead 3 3 0 none\nvote 0\nvote 2\nclaim 1 2 1 1 join 0 0\nvote 3\nclaim 1 2 1 1 join 0 0\nclaim 5 0 none\n",
		},
	}
}

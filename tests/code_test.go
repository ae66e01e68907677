package tests

import (
	"testing"

	"loop.example/wapentake/impl"
)

func TestP45Examples(t *testing.T) {
	for _, x := range codedMsgs() {
		if s := msgPut(t, x.msg); s != x.text {
			t.Errorf("%v is written as %q, want %q", x.msg, s, x.text)
		}
		if m, ok := msgGet(t, x.text); !ok || !impl.MsgSame(m, x.msg) {
			t.Errorf("%q is read as %v %v, want %v", x.text, m, ok, x.msg)
		}
	}
}

func TestP45GoodMessages(t *testing.T) {
	for _, g := range goodMsgs() {
		if s := msgPut(t, g.msg); s == "" || msgPut(t, emptied(g.msg)) != s {
			t.Errorf("%s is written as %q, and with empty lists as %q", g.name, s, impl.MsgPut(emptied(g.msg)))
		}
	}
}

func TestP45EachRequest(t *testing.T) {
	for _, r := range append(allAsks(), impl.Req{}) {
		c := claim(3, 4, r)
		turn, lead := turnOf(5, vote(1, c)), leadOf(0, 0, vote(2, claim(2, 0, joinOf(1)), c), vote(3, c))
		for _, m := range []impl.Msg{askOf(r), about(2, 1, c), about(3, 2, c), about(4, 3, c), turn, lead} {
			null := r == impl.Req{}
			if s := msgPut(t, m); (s == "") != (null && m.Kind <= 2) {
				t.Fatalf("%v is written as %q", m, s)
			}
		}
	}
}

// TestP45EachNumber has every number in its range, and one less and one more.
func TestP45EachNumber(t *testing.T) {
	for from := -1; from <= keepers; from++ {
		for view := -1; view <= lastView+1; view++ {
			for seq := -1; seq <= lastSeq+1; seq++ {
				c := claim(seq, view, joinOf(3))
				list := []impl.Msg{turnOf(view, vote(from)), turnOf(1, vote(1, c)), leadOf(from, view), leadOf(1, 1, vote(from, c))}
				for kind := 1; kind <= kindMax; kind++ {
					list = append(list, about(kind, from, c), about(kind, from, claim(seq, view, impl.Req{})))
				}
				for _, m := range list {
					msgPut(t, m)
					msgGet(t, rawMsg(m))
				}
			}
		}
	}
}

func TestP45AnyLists(t *testing.T) {
	c := &chance{state: 45}
	for range 3000 {
		claims, votes := anyClaims(c), anyVotes(c)
		from, view := c.below(keepers), c.below(lastView+1)
		msgPut(t, turnOf(view, vote(from, claims...)))
		msgPut(t, leadOf(from, view, votes...))
		both := leadOf(from, view, votes...)
		both.Claims = claims
		msgPut(t, both)
	}
}

// mustNotWrite has an invalid message, and a text as it would be written.
func mustNotWrite(t *testing.T, m impl.Msg) {
	t.Helper()
	if modelMsgOk(m) {
		t.Fatalf("the message is valid: %v", m)
	}
	if s := msgPut(t, m); s != "" {
		t.Errorf("%v is written as %q", m, s)
	}
	if m.Kind >= 1 && m.Kind <= kindMax {
		mustNotReadMsg(t, rawMsg(m))
	}
}

func TestP45ZeroAndFull(t *testing.T) {
	mustNotWrite(t, impl.Msg{})
	mustNotWrite(t, fullMsg())
}

func TestP45WrongNumbersAndRequests(t *testing.T) {
	for _, x := range append(wrongNumbers(), wrongRequests()...) {
		mustNotWrite(t, x.msg)
	}
}

func TestP45WrongLists(t *testing.T) {
	for name, claims := range badClaimLists() {
		t.Run(name, func(t *testing.T) { mustNotWrite(t, turnOf(4, vote(1, claims...))) })
	}
	for name, votes := range badVoteLists() {
		t.Run(name, func(t *testing.T) { mustNotWrite(t, leadOf(1, 1, votes...)) })
	}
}

// TestP45ListsOfAnotherKind has claims and votes where the kind has none: claims of a MsgLead stand ahead of its votes.
func TestP45ListsOfAnotherKind(t *testing.T) {
	a, b := claim(1, 0, joinOf(1)), claim(2, 0, impl.Req{})
	for _, g := range goodMsgs() {
		for _, claims := range [][]impl.Claim{{a}, {b}, {a, b}} {
			m := cloneMsg(g.msg)
			if m.Claims = claims; m.Kind != 5 {
				mustNotWrite(t, m)
			}
		}
		for _, votes := range [][]impl.Vote{{vote(0)}, {vote(1, a)}, {vote(0, a, b), vote(3, b)}} {
			m := cloneMsg(g.msg)
			if m.Votes = votes; m.Kind != 6 {
				mustNotWrite(t, m)
			}
		}
	}
}

// TestP45SameClaimsElsewhere has messages whose texts have the same lines for claims in other places.
func TestP45SameClaimsElsewhere(t *testing.T) {
	a, b := claim(1, 0, joinOf(1)), claim(2, 3, impl.Req{})
	list := []impl.Msg{
		leadOf(1, 1), leadOf(1, 1, vote(0)), leadOf(1, 1, vote(0), vote(1)), leadOf(1, 1, vote(0), vote(1, a)), leadOf(1, 1, vote(0, a), vote(1)),
		leadOf(1, 1, vote(0, a), vote(1, a)), leadOf(1, 1, vote(0, a), vote(1, b)), leadOf(1, 1, vote(0, b), vote(1, a)),
		leadOf(1, 1, vote(0, a, b), vote(1)), leadOf(1, 1, vote(0), vote(1, a, b)), leadOf(1, 1, vote(0, a, b), vote(1, a, b)),
		leadOf(1, 1, vote(0, a, b)), leadOf(1, 1, vote(1, a, b)), turnOf(1, vote(1, a, b)), turnOf(1, vote(1, a)), turnOf(1, vote(1, b)), turnOf(1, vote(1)),
	}
	texts := map[string]bool{}
	for _, m := range list {
		texts[msgPut(t, m)] = true
	}
	if len(texts) != len(list) || texts[""] {
		t.Errorf("%d messages have %d texts", len(list), len(texts))
	}
}

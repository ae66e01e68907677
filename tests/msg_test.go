package tests

import (
	"math"
	"slices"
	"strconv"
	"testing"

	"loop.example/wapentake/impl"
)

func TestLimitsOfMessages(t *testing.T) {
	got := []int{
		impl.MsgAsk, impl.MsgOffer, impl.MsgYes, impl.MsgSure, impl.MsgTurn, impl.MsgLead,
		impl.Keepers, impl.Quorum, impl.ViewMax, impl.SeqMax,
	}
	if want := []int{1, 2, 3, 4, 5, 6, 4, 3, 6, 5}; !slices.Equal(got, want) {
		t.Errorf("the constants are %v, want %v", got, want)
	}
}

func TestP9EachView(t *testing.T) {
	for view, want := range []int{0, 1, 2, 3, 0, 1, 2} {
		if got := impl.Leader(view); got != want {
			t.Errorf("Leader(%d) is %d, want %d", view, got, want)
		}
	}
}

func TestP9Rotation(t *testing.T) {
	for first := 0; first+keepers-1 <= lastView; first++ {
		times := make([]int, keepers)
		for view := first; view < first+keepers; view++ {
			times[impl.Leader(view)]++
		}
		if !slices.Equal(times, []int{1, 1, 1, 1}) {
			t.Errorf("from view %d the replicas lead %v times", first, times)
		}
	}
}

func TestP9NoView(t *testing.T) {
	for _, n := range []int{-1, -2, -3, -4, -5, 7, 8, 9, 11, 12, 100, 1 << 32, math.MinInt, math.MaxInt} {
		if got := impl.Leader(n); got != -1 {
			t.Errorf("Leader(%d) is %d, want -1", n, got)
		}
	}
}

func TestP10ValidMessages(t *testing.T) {
	for _, g := range goodMsgs() {
		if !impl.MsgOk(g.msg) || !impl.MsgOk(emptied(g.msg)) {
			t.Errorf("not valid: %s %v", g.name, g.msg)
		}
	}
	for _, r := range allAsks() {
		if !impl.MsgOk(impl.Msg{Kind: 1, Req: r}) || !impl.MsgOk(turnOf(1, vote(2, claim(3, 0, r)))) {
			t.Errorf("not valid with %v", r)
		}
	}
	for kind := 2; kind <= 4; kind++ {
		for from := range keepers {
			for view := 0; view <= lastView; view++ {
				for seq := 1; seq <= lastSeq; seq++ {
					if m := about(kind, from, claim(seq, view, joinOf(4))); !impl.MsgOk(m) {
						t.Errorf("not valid: %v", m)
					}
				}
			}
		}
	}
}

// badValues is what the field of a valid message of that kind must not be.
func badValues(kind int) map[string][]int {
	far := []int{-1, math.MinInt, math.MaxInt, 1 << 32}
	zero := append(far, 1, 2)
	bad := map[string][]int{
		"kind": {0, -1, 7, 8, math.MinInt, math.MaxInt},
		"from": append(far, keepers), "view": append(far, lastView+1), "seq": append(far, 0, lastSeq+1),
	}
	if kind == 1 {
		bad["from"], bad["view"] = zero, zero
	}
	if kind == 1 || kind >= 5 {
		bad["seq"] = zero
	}
	return bad
}

// wrongNumbers is the good messages with one number that their kind does not allow.
func wrongNumbers() []namedMsg {
	fields := map[string]func(m *impl.Msg) *int{
		"kind": func(m *impl.Msg) *int { return &m.Kind },
		"from": func(m *impl.Msg) *int { return &m.From },
		"view": func(m *impl.Msg) *int { return &m.View },
		"seq":  func(m *impl.Msg) *int { return &m.Seq },
	}
	var out []namedMsg
	for _, g := range goodMsgs() {
		for name, list := range badValues(g.msg.Kind) {
			for _, n := range list {
				m := cloneMsg(g.msg)
				*fields[name](&m) = n
				out = append(out, namedMsg{g.name + " with " + name + " " + strconv.Itoa(n), m})
			}
		}
	}
	return out
}

// wrongRequests is the good messages with a request that their kind does not allow.
func wrongRequests() []namedMsg {
	var out []namedMsg
	for _, g := range goodMsgs() {
		bad := badAsks()
		if g.msg.Kind <= 2 {
			bad = append(bad, impl.Req{})
		}
		if g.msg.Kind >= 5 {
			bad = append(bad, joinOf(1))
		}
		for _, r := range bad {
			m := cloneMsg(g.msg)
			m.Req = r
			out = append(out, namedMsg{g.name + " with the request " + strQuote(r), m})
		}
	}
	return out
}

func TestP10OneNumberWrong(t *testing.T) {
	for _, x := range wrongNumbers() {
		if impl.MsgOk(x.msg) {
			t.Errorf("valid: %s: %v", x.name, x.msg)
		}
	}
}

func TestP10WrongRequest(t *testing.T) {
	for _, x := range wrongRequests() {
		if impl.MsgOk(x.msg) {
			t.Errorf("valid: %s: %v", x.name, x.msg)
		}
	}
}

func TestP10WrongLists(t *testing.T) {
	for _, g := range goodMsgs() {
		m := cloneMsg(g.msg)
		if g.msg.Kind != 5 {
			for _, claims := range [][]impl.Claim{{{}}, {claim(1, 0, joinOf(1))}, {claim(1, 0, impl.Req{}), claim(2, 0, impl.Req{})}} {
				m.Claims = claims
				if impl.MsgOk(m) {
					t.Errorf("valid: %s with claims %v", g.name, claims)
				}
			}
		}
		m = cloneMsg(g.msg)
		if g.msg.Kind != 6 {
			for _, votes := range [][]impl.Vote{{{}}, {vote(1)}, {vote(0, claim(1, 0, joinOf(1)))}, {vote(0), vote(1), vote(2)}} {
				m.Votes = votes
				if impl.MsgOk(m) {
					t.Errorf("valid: %s with votes %v", g.name, votes)
				}
			}
		}
	}
	for name, claims := range badClaimLists() {
		if impl.MsgOk(turnOf(4, vote(1, claims...))) {
			t.Errorf("valid: turn with claims: %s", name)
		}
	}
	for name, votes := range badVoteLists() {
		if impl.MsgOk(leadOf(1, 1, votes...)) {
			t.Errorf("valid: lead with votes: %s", name)
		}
	}
}

// TestP10FieldsTogether holds every message with fields around the limits against the model.
func TestP10FieldsTogether(t *testing.T) {
	good, bad := claim(1, 0, joinOf(1)), claim(1, 7, joinOf(1))
	reqs := []impl.Req{{}, joinOf(3), {Client: 3}}
	claims := [][]impl.Claim{nil, {}, {good}, {bad}}
	votes := [][]impl.Vote{nil, {}, {vote(0, good)}, {vote(0, bad)}}
	var m impl.Msg
	valid := 0
	for m.Kind = -1; m.Kind <= kindMax+1; m.Kind++ {
		for m.From = -1; m.From <= keepers; m.From++ {
			for _, m.View = range []int{-1, 0, 1, lastView, lastView + 1} {
				for _, m.Seq = range []int{-1, 0, 1, lastSeq, lastSeq + 1} {
					for _, m.Req = range reqs {
						for _, m.Claims = range claims {
							for _, m.Votes = range votes {
								if impl.MsgOk(m) != modelMsgOk(m) {
									t.Fatalf("MsgOk(%v) is %v", m, !modelMsgOk(m))
								}
								if modelMsgOk(m) {
									valid++
								}
							}
						}
					}
				}
			}
		}
	}
	if valid == 0 {
		t.Error("no message is valid")
	}
}

// checkSame looks at each pair: the messages are all different.
func checkSame(t *testing.T, list []impl.Msg) {
	t.Helper()
	for i, a := range list {
		for j, b := range list {
			if impl.MsgSame(a, b) != (i == j) {
				t.Fatalf("MsgSame is %v for %v and %v", i != j, a, b)
			}
		}
	}
}

func TestP10OneFieldDiffers(t *testing.T) {
	full := fullMsg()
	list := append(msgsOff(full), full)
	if len(list) < 60 {
		t.Fatalf("only %d messages", len(list))
	}
	checkSame(t, list)
	for _, g := range goodMsgs() {
		for _, m := range msgsOff(g.msg) {
			if impl.MsgSame(g.msg, m) || impl.MsgSame(m, g.msg) {
				t.Errorf("the same: %v and %v", g.msg, m)
			}
		}
	}
	checkSame(t, append(msgsOff(impl.Msg{}), impl.Msg{}))
}

func TestP10SameClaimsElsewhere(t *testing.T) {
	a, b := claim(1, 0, joinOf(1)), claim(2, 0, joinOf(2))
	checkSame(t, []impl.Msg{
		leadOf(1, 1), turnOf(1, vote(1)), leadOf(1, 1, vote(0)), leadOf(1, 1, vote(0), vote(0)),
		leadOf(1, 1, vote(0, a, b)), leadOf(1, 1, vote(0, a), vote(0, b)), leadOf(1, 1, vote(0), vote(0, a, b)),
		leadOf(1, 1, vote(0, a, b), vote(0)), leadOf(1, 1, vote(0, a), vote(0), vote(0, b)), leadOf(1, 1, vote(0, b, a)),
		turnOf(1, vote(1, a, b)), turnOf(1, vote(1, b, a)), turnOf(1, vote(1, a)), turnOf(1, vote(1, a, a)),
		{Kind: 6, From: 1, View: 1, Claims: []impl.Claim{a, b}}, {Kind: 6, From: 1, View: 1, Claims: []impl.Claim{a}, Votes: []impl.Vote{vote(0, b)}},
	})
}

func TestP10Equivalence(t *testing.T) {
	list := append(msgsOff(fullMsg()), fullMsg(), impl.Msg{})
	for _, g := range goodMsgs() {
		list = append(list, g.msg)
		list = append(list, msgsOff(g.msg)...)
	}
	for _, m := range list {
		same := []impl.Msg{m, cloneMsg(m), emptied(m), emptied(emptied(m))}
		for _, a := range same {
			for _, b := range same {
				if !impl.MsgSame(a, b) {
					t.Fatalf("not the same: %#v and %#v", a, b)
				}
				if impl.MsgOk(a) != impl.MsgOk(b) {
					t.Fatalf("only one is valid: %#v and %#v", a, b)
				}
			}
		}
		if impl.MsgOk(m) != modelMsgOk(m) {
			t.Fatalf("MsgOk(%v) is %v", m, !modelMsgOk(m))
		}
	}
	for _, a := range list {
		for _, b := range list[:40] {
			if same := modelSame(a, b); impl.MsgSame(a, b) != same || impl.MsgSame(b, a) != same {
				t.Fatalf("MsgSame is %v for %v and %v", !same, a, b)
			}
		}
	}
}

func TestP10ArgumentsStay(t *testing.T) {
	for _, g := range append(goodMsgs(), namedMsg{"full", fullMsg()}) {
		m, before := g.msg, cloneMsg(g.msg)
		impl.MsgOk(m)
		impl.MsgSame(m, cloneMsg(m))
		impl.SaidHas([]impl.Msg{m}, m)
		mustStay(t, []impl.Msg{m}, []impl.Msg{before})
	}
}

func TestP11Everywhere(t *testing.T) {
	for _, m := range append(goodMsgs(), namedMsg{"full", fullMsg()}, namedMsg{"zero", impl.Msg{}}) {
		others := msgsOff(m.msg)
		if impl.SaidHas(others, m.msg) {
			t.Fatalf("%s is in messages that all differ from it: %v", m.name, m.msg)
		}
		anywhere(others, cloneMsg(m.msg), func(said []impl.Msg) {
			if !impl.SaidHas(said, m.msg) || !impl.SaidHas(said, emptied(m.msg)) {
				t.Fatalf("%s is not found: %v", m.name, m.msg)
			}
		})
		if !impl.SaidHas([]impl.Msg{m.msg}, cloneMsg(m.msg)) || !impl.SaidHas([]impl.Msg{m.msg, m.msg}, m.msg) {
			t.Errorf("%s is not found alone", m.name)
		}
		if impl.SaidHas(nil, m.msg) || impl.SaidHas([]impl.Msg{}, m.msg) {
			t.Errorf("%s is found in nothing", m.name)
		}
	}
}

func TestP11Membership(t *testing.T) {
	all := append(msgsOff(fullMsg()), fullMsg(), impl.Msg{})
	for _, g := range goodMsgs() {
		all = append(all, g.msg)
	}
	for i, m := range all {
		if impl.SaidHas(without(all, i), m) {
			t.Errorf("found though it was taken out: %v", m)
		}
		if !impl.SaidHas(all, m) {
			t.Errorf("not found: %v", m)
		}
	}
	c := &chance{state: 11}
	for range 300 {
		var said []impl.Msg
		for range c.below(12) {
			said = append(said, all[c.below(len(all))])
		}
		m := all[c.below(len(all))]
		want := slices.ContainsFunc(said, func(s impl.Msg) bool { return impl.MsgSame(s, m) })
		if impl.SaidHas(said, m) != want {
			t.Fatalf("SaidHas is %v for %v in %v", !want, m, said)
		}
	}
}

func TestP11ManyMessages(t *testing.T) {
	last := about(4, 3, claim(5, 6, joinOf(4)))
	said := slices.Repeat([]impl.Msg{about(4, 3, claim(5, 5, joinOf(4)))}, 300)
	if impl.SaidHas(said, last) || !impl.SaidHas(append(said, last), last) {
		t.Error("the message after 300 others")
	}
}

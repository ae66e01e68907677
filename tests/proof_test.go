package tests

import (
	"math"
	"slices"
	"testing"

	"loop.example/wapentake/impl"
)

// backups is the replicas that do not lead the view.
func backups(view int) []int {
	var list []int
	for k := range keepers {
		if k != view%keepers {
			list = append(list, k)
		}
	}
	return list
}

func yesFrom(c impl.Claim, from ...int) []impl.Msg {
	var said []impl.Msg
	for _, k := range from {
		said = append(said, about(3, k, c))
	}
	return said
}

func sureFrom(c impl.Claim, from ...int) []impl.Msg {
	var said []impl.Msg
	for _, k := range from {
		said = append(said, about(4, k, c))
	}
	return said
}

// proposal is a MsgLead for which the claim is picked; an earlier view claims something else at its place.
func proposal(c impl.Claim) impl.Msg {
	other := claim(c.Seq, 0, joinOf(4))
	return leadOf(c.View%keepers, c.View, vote(0, other), vote(1, claim(c.Seq, 1, c.Req)), vote(3))
}

func offer(c impl.Claim) impl.Msg {
	return about(2, c.View%keepers, c)
}

// readySaid is just enough to prepare the claim: each message is needed.
func readySaid(c impl.Claim) []impl.Msg {
	first := offer(c)
	if (c.Req == impl.Req{}) {
		first = proposal(c)
	}
	return append([]impl.Msg{first}, yesFrom(c, backups(c.View)[:quorum-1]...)...)
}

// mustBe fails unless the claim is prepared and committed as the test and the model say.
func mustBe(t *testing.T, name string, said []impl.Msg, c impl.Claim, ready, done bool) {
	t.Helper()
	before := cloneMsgs(said)
	if impl.ClaimReady(said, c) != ready {
		t.Fatalf("%s: ClaimReady of %v is %v: %v", name, c, !ready, said)
	}
	if impl.ClaimDone(said, c) != done {
		t.Fatalf("%s: ClaimDone of %v is %v: %v", name, c, !done, said)
	}
	mustStay(t, said, before)
}

// someClaims is a claim of each view and sequence number, with a request and with null.
func someClaims() []impl.Claim {
	var list []impl.Claim
	for view := 0; view <= lastView; view++ {
		for seq := 1; seq <= lastSeq; seq++ {
			list = append(list, claim(seq, view, joinOf(1+seq%2)), claim(seq, view, impl.Req{}))
		}
	}
	return list
}

func TestP13OfferAndLead(t *testing.T) {
	for _, c := range someClaims() {
		proposals := []impl.Msg{proposal(c)}
		if (c.Req != impl.Req{}) {
			proposals = append(proposals, offer(c))
		}
		for _, p := range proposals {
			said := []impl.Msg{p}
			mustBe(t, "proposed only", said, c, false, false)
			said = append(said, yesFrom(c, backups(c.View)[0])...)
			mustBe(t, "one yes", said, c, false, false)
			said = append(said, yesFrom(c, backups(c.View)[2])...)
			mustBe(t, "two yes", said, c, true, false)
			mustBe(t, "two yes and no proposal", said[1:], c, false, false)
			said = append(said, sureFrom(c, c.View%keepers, backups(c.View)[1])...)
			mustBe(t, "two sure", said, c, true, false)
			said = append(said, sureFrom(c, backups(c.View)[2])...)
			mustBe(t, "three sure", said, c, true, true)
			slices.Reverse(said)
			mustBe(t, "in another order", said, c, true, true)
		}
	}
}

func TestP13EachTwoBackups(t *testing.T) {
	for view := 0; view <= lastView; view++ {
		c := claim(2, view, joinOf(3))
		b := backups(view)
		for i := range b {
			two := slices.Delete(slices.Clone(b), i, i+1)
			said := append([]impl.Msg{offer(c)}, yesFrom(c, two...)...)
			mustBe(t, "two backups", said, c, true, false)
			mustBe(t, "one backup and the leader", append([]impl.Msg{offer(c)}, yesFrom(c, b[i], view%keepers)...), c, false, false)
		}
		mustBe(t, "all backups", append([]impl.Msg{offer(c)}, yesFrom(c, b...)...), c, true, false)
		for out := range keepers {
			var three []int
			for k := range keepers {
				if k != out {
					three = append(three, k)
				}
			}
			mustBe(t, "three sure", append(readySaid(c), sureFrom(c, three...)...), c, true, true)
			mustBe(t, "two sure", append(readySaid(c), sureFrom(c, three[1:]...)...), c, true, false)
		}
		mustBe(t, "all sure", append(readySaid(c), sureFrom(c, 0, 1, 2, 3)...), c, true, true)
	}
}

func TestP13LeaderSaysYes(t *testing.T) {
	for _, c := range someClaims() {
		leader, b := c.View%keepers, backups(c.View)
		said := append([]impl.Msg{proposal(c)}, yesFrom(c, b[1], leader, leader)...)
		mustBe(t, "leader and one", said, c, false, false)
		said = append(said, sureFrom(c, 0, 1, 2, 3)...)
		mustBe(t, "leader and one, all sure", said, c, false, false)
		said = append(said, yesFrom(c, b[0])...)
		mustBe(t, "leader and two, all sure", said, c, true, true)
	}
}

func TestP13SentTwice(t *testing.T) {
	for _, c := range someClaims() {
		b := backups(c.View)
		said := append([]impl.Msg{proposal(c)}, yesFrom(c, b[1], b[1], b[1])...)
		mustBe(t, "one yes three times", said, c, false, false)
		said = append(said, sureFrom(c, 0, 1, 2)...)
		mustBe(t, "one yes three times, and sure", said, c, false, false)
		said = append(readySaid(c), sureFrom(c, 3, 3, 0, 0, 3)...)
		mustBe(t, "two sure twice", said, c, true, false)
		mustBe(t, "two sure twice and one", append(said, sureFrom(c, 1)...), c, true, true)
	}
}

func TestP13NoReplica(t *testing.T) {
	for _, c := range someClaims() {
		for _, k := range []int{-1, keepers, c.View%keepers + keepers, math.MinInt, math.MaxInt} {
			said := append([]impl.Msg{proposal(c)}, yesFrom(c, backups(c.View)[0], k)...)
			mustBe(t, "yes of no replica", said, c, false, false)
			said = append(readySaid(c), sureFrom(c, 0, 1, k)...)
			mustBe(t, "sure of no replica", said, c, true, false)
		}
	}
}

// TestP13OneFieldOff changes one field of one message of a proof in which each message is needed.
func TestP13OneFieldOff(t *testing.T) {
	for _, c := range []impl.Claim{claim(2, 3, joinOf(1)), claim(1, 0, joinOf(2)), claim(4, 5, impl.Req{Client: 2, Num: 3, Op: 5, X: 1, Y: 2})} {
		said := append(readySaid(c), sureFrom(c, 0, 2, 3)...)
		mustBe(t, "whole", said, c, true, true)
		for i := range said {
			late := i >= len(readySaid(c))
			mustBe(t, "one fewer", without(said, i), c, late, false)
			for _, m := range wrongOnes(said[i]) {
				broken := slices.Clone(said)
				broken[i] = m
				mustBe(t, "one field off", broken, c, late, false)
			}
		}
		for _, near := range claimsOff(c) {
			mustBe(t, "another claim", said, near, false, false)
		}
	}
}

// wrongOnes is the message with another kind, view, number or request, all of which a proof must look at.
func wrongOnes(m impl.Msg) []impl.Msg {
	var list []impl.Msg
	for kind := -1; kind <= kindMax+1; kind++ {
		if kind != m.Kind {
			x := m
			x.Kind = kind
			list = append(list, x)
		}
	}
	for _, c := range claimsOff(claim(m.Seq, m.View, m.Req)) {
		list = append(list, about(m.Kind, m.From, c))
	}
	return append(list, about(m.Kind, m.From, claim(m.Seq-1, m.View, m.Req)), about(m.Kind, m.From, claim(m.Seq, m.View-1, m.Req)))
}

func TestP13ProposedByAnother(t *testing.T) {
	for _, c := range someClaims() {
		yes := yesFrom(c, 0, 1, 2, 3)
		yes = append(yes, sureFrom(c, 0, 1, 2, 3)...)
		for from := -1; from <= keepers+1; from++ {
			if from == c.View%keepers {
				continue
			}
			lead := proposal(c)
			lead.From = from
			mustBe(t, "proposed by another", append(yes, about(2, from, c), lead), c, false, false)
		}
		lead := proposal(c)
		for _, view := range []int{-1, lastView + 1, c.View - keepers, c.View + keepers, c.View + 1} {
			lead.View = view
			mustBe(t, "lead of another view", append(yes, lead), c, false, false)
		}
		mustBe(t, "proposed", append(yes, proposal(c)), c, true, true)
	}
}

type leadCase struct {
	name  string
	votes []impl.Vote
	seq   int
	req   impl.Req
	want  bool
}

// leadCases is what a MsgLead proposes, with votes that need not be valid.
func leadCases() []leadCase {
	null, a, b := impl.Req{}, joinOf(1), joinOf(2)
	gap := []impl.Vote{vote(0, claim(1, 0, a)), vote(2, claim(3, 1, b))}
	bad := impl.Req{Client: 7}
	return []leadCase{
		{"claimed", gap, 1, a, true}, {"claimed third", gap, 3, b, true},
		{"gap", gap, 2, null, true}, {"gap with a request", gap, 2, a, false}, {"null where claimed", gap, 3, null, false},
		{"beyond the votes", gap, 4, null, false}, {"beyond the votes, claimed before", gap, 4, b, false},
		{"no votes", nil, 1, null, false}, {"no claims", []impl.Vote{vote(0), vote(1), vote(2)}, 1, null, false},
		{"null claimed", []impl.Vote{vote(0, claim(1, 0, null))}, 1, null, true},
		{"earlier view", []impl.Vote{vote(0, claim(1, 0, a)), vote(1, claim(1, 2, b))}, 1, a, false},
		{"later view", []impl.Vote{vote(0, claim(1, 0, a)), vote(1, claim(1, 2, b))}, 1, b, true},
		{"second of one view", []impl.Vote{vote(0, claim(1, 2, a)), vote(1, claim(1, 2, b))}, 1, b, false},
		{"first of one view", []impl.Vote{vote(0, claim(1, 2, a)), vote(1, claim(1, 2, b))}, 1, a, true},
		{"votes twice", []impl.Vote{vote(1, claim(1, 0, a)), vote(1, claim(1, 0, b))}, 1, a, true},
		{"votes descend", []impl.Vote{vote(3, claim(1, 0, b)), vote(1, claim(1, 0, a))}, 1, b, true},
		{"vote of no replica", []impl.Vote{vote(9, claim(1, 0, a))}, 1, a, true},
		{"five votes", []impl.Vote{vote(0), vote(1), vote(2), vote(3), vote(4, claim(1, 0, a))}, 1, a, true},
		{"one number twice in a vote", []impl.Vote{vote(0, claim(1, 1, a), claim(1, 1, b))}, 1, a, true},
		{"one number twice in a vote, later view second", []impl.Vote{vote(0, claim(1, 1, a), claim(1, 2, b))}, 1, b, true},
		{"claims descend", []impl.Vote{vote(0, claim(2, 0, b), claim(1, 0, a))}, 2, b, true},
		{"views below 0", []impl.Vote{vote(0, claim(1, -9, a)), vote(1, claim(1, -3, b)), vote(2, claim(1, -4, a))}, 1, b, true},
		{"only a view below 0", []impl.Vote{vote(0, claim(1, math.MinInt, a))}, 1, a, true},
		{"a view beyond the last", []impl.Vote{vote(0, claim(1, 6, a)), vote(1, claim(1, math.MaxInt, b))}, 1, b, true},
		{"numbers 0 and -1", []impl.Vote{vote(0, claim(0, 0, a), claim(-1, 0, a))}, 1, null, false},
		{"number 0 and 1", []impl.Vote{vote(0, claim(0, 5, b), claim(1, 0, a))}, 1, a, true},
		{"number 6", []impl.Vote{vote(0, claim(6, 0, a))}, 5, null, true},
		{"the largest number", []impl.Vote{vote(0, claim(math.MaxInt, 0, a))}, 3, null, true},
		{"the largest number, a request", []impl.Vote{vote(0, claim(math.MaxInt, 0, a))}, 3, a, false},
		{"the smallest number", []impl.Vote{vote(0, claim(math.MinInt, 0, a))}, 1, null, false},
		{"a bad request of a later view", []impl.Vote{vote(0, claim(1, 0, a)), vote(1, claim(1, 1, bad))}, 1, a, false},
		{"a bad request of an earlier view", []impl.Vote{vote(0, claim(1, 0, bad)), vote(1, claim(1, 1, a))}, 1, a, true},
	}
}

func TestP13LeadWithAnyVotes(t *testing.T) {
	for _, l := range leadCases() {
		for view := 0; view <= lastView; view++ {
			c := claim(l.seq, view, l.req)
			said := append(yesFrom(c, backups(view)...), leadOf(view%keepers, view, l.votes...))
			said = append(said, sureFrom(c, 0, 1, 2)...)
			mustBe(t, l.name, said, c, l.want, l.want)
		}
	}
}

func TestP13InvalidClaims(t *testing.T) {
	var list []impl.Claim
	for _, n := range []int{-1, math.MinInt, math.MaxInt, 1 << 32} {
		list = append(list, claim(n, 1, joinOf(1)), claim(1, n, joinOf(1)))
	}
	list = append(list, claim(0, 1, joinOf(1)), claim(6, 1, joinOf(1)), claim(0, 1, impl.Req{}), claim(6, 1, impl.Req{}), claim(1, 7, joinOf(1)), impl.Claim{})
	for _, r := range badAsks() {
		list = append(list, claim(2, 1, r))
	}
	for _, c := range list {
		var said []impl.Msg
		for from := -1; from <= keepers; from++ {
			lead := leadOf(from, c.View, vote(0, c), vote(1, claim(math.MaxInt, 0, c.Req)))
			said = append(said, about(2, from, c), about(3, from, c), about(4, from, c), lead)
		}
		mustBe(t, "invalid claim", said, c, false, false)
	}
	mustBe(t, "nothing said", nil, claim(1, 0, joinOf(1)), false, false)
}

func TestP13SureIsNotReady(t *testing.T) {
	for _, c := range someClaims() {
		said := append([]impl.Msg{proposal(c)}, sureFrom(c, 0, 1, 2, 3)...)
		mustBe(t, "sure without yes", said, c, false, false)
		said = append(sureFrom(c, 0, 1, 2, 3), yesFrom(c, 0, 1, 2, 3)...)
		mustBe(t, "sure and yes without a proposal", said, c, false, false)
		said = append([]impl.Msg{proposal(c)}, yesFrom(c, 0, 1, 2, 3)...)
		mustBe(t, "yes of all", said, c, true, false)
	}
}

func TestP13AddedAnywhere(t *testing.T) {
	c := claim(2, 1, joinOf(1))
	other := claim(2, 1, joinOf(2))
	ready := readySaid(c)
	done := append(slices.Clone(ready), sureFrom(c, 1, 2, 3)...)
	extra := append(msgsOff(fullMsg()), fullMsg(), impl.Msg{}, offer(other), proposal(other), proposal(c), offer(c))
	extra = append(extra, yesFrom(other, 0, 1, 2, 3)...)
	extra = append(extra, sureFrom(other, 0, 1, 2, 3)...)
	extra = append(extra, leadOf(1, 1), turnOf(2, vote(1)), about(3, 1, c), impl.Msg{Kind: 1, Req: c.Req})
	for _, m := range extra {
		anywhere(ready, m, func(said []impl.Msg) { mustBe(t, "added to ready", said, c, true, false) })
		anywhere(done, m, func(said []impl.Msg) { mustBe(t, "added to done", said, c, true, true) })
	}
}

// heap is messages about a few claims, of which some are proved and many almost.
func heap(c *chance, claims []impl.Claim) []impl.Msg {
	var said []impl.Msg
	for _, x := range claims {
		if c.below(3) > 0 && (x.Req != impl.Req{}) {
			said = append(said, about(2, (x.View+c.below(2)*c.below(4))%keepers, x))
		}
		if c.below(2) > 0 {
			said = append(said, leadOf(x.View%keepers, x.View, anyVotes(c)...))
		}
		for range 2 + c.below(5) {
			said = append(said, about(3, c.below(keepers+1), x))
		}
		for range 3 + c.below(5) {
			said = append(said, about(4, c.below(keepers+1), x))
		}
	}
	for i := range said {
		j := i + c.below(len(said)-i)
		said[i], said[j] = said[j], said[i]
	}
	return said
}

func TestP13AnyMessages(t *testing.T) {
	c := &chance{state: 13}
	seen := map[[2]bool]int{}
	for range 800 {
		claims := []impl.Claim{claim(1, c.below(3), joinOf(1)), claim(1, c.below(3), joinOf(2)), claim(2, c.below(7), impl.Req{})}
		said := heap(c, claims)
		for _, x := range claims {
			ready, done := modelReady(said, x), modelDone(said, x)
			mustBe(t, "any", said, x, ready, done)
			seen[[2]bool{ready, done}]++
			more := slices.Insert(slices.Clone(said), c.below(len(said)+1), heap(c, claims)...)
			if ready && !impl.ClaimReady(more, x) || done && !impl.ClaimDone(more, x) {
				t.Fatalf("%v is lost when messages are added", x)
			}
			if impl.ClaimDone(more, x) && !impl.ClaimReady(more, x) {
				t.Fatalf("%v is committed and not prepared", x)
			}
		}
	}
	for _, kind := range [][2]bool{{false, false}, {true, false}, {true, true}} {
		if seen[kind] < 100 {
			t.Errorf("only %d claims are %v", seen[kind], kind)
		}
	}
}

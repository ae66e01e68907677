package tests

import (
	"math"
	"slices"
	"testing"

	"loop.example/wapentake/impl"
)

// certificate is what was said, and votes that justify entering the view.
type certificate struct {
	view  int
	said  []impl.Msg
	votes []impl.Vote
}

// certify adds what makes the votes valid: their messages, and a proof of each claim.
func certify(view int, votes ...impl.Vote) certificate {
	cert := certificate{view: view, votes: votes}
	for _, v := range votes {
		for _, c := range v.Claims {
			cert.said = append(cert.said, readySaid(c)...)
		}
		cert.said = append(cert.said, turnOf(view, v))
	}
	return cert
}

// goodCertificate is of view 3, and each of its messages is needed.
func goodCertificate() certificate {
	a, b := claim(1, 2, joinOf(1)), claim(3, 0, joinOf(2))
	return certify(3, vote(0, a), vote(1), vote(3, claim(2, 1, impl.Req{}), b))
}

func (cert certificate) mustBe(t *testing.T, name string, want bool) {
	t.Helper()
	said, votes := cloneMsgs(cert.said), cloneVotes(cert.votes)
	if impl.VotesOk(cert.said, cert.view, cert.votes) != want {
		t.Fatalf("%s: VotesOk is %v for view %d, %v in %v", name, !want, cert.view, cert.votes, cert.said)
	}
	mustStay(t, cert.said, said)
	mustStay(t, []impl.Msg{{Votes: cert.votes}}, []impl.Msg{{Votes: votes}})
}

func TestP14EachView(t *testing.T) {
	for view := 0; view <= lastView; view++ {
		certify(view, vote(0), vote(1), vote(2)).mustBe(t, "no claims", true)
		for before := range view {
			c := claim(1, before, joinOf(1))
			certify(view, vote(1), vote(2, c), vote(3, c)).mustBe(t, "a claim of an earlier view", true)
			null := claim(4, before, impl.Req{})
			certify(view, vote(0, c, null), vote(2, null), vote(3)).mustBe(t, "claims of an earlier view", true)
		}
		for later := view; later <= lastView; later++ {
			certify(view, vote(0), vote(1, claim(1, later, joinOf(1))), vote(2)).mustBe(t, "a claim of no earlier view", false)
			certify(view, vote(0), vote(1), vote(2, claim(1, later, impl.Req{}))).mustBe(t, "a last claim of no earlier view", false)
		}
	}
}

func TestP14NoView(t *testing.T) {
	for _, view := range []int{-1, lastView + 1, lastView + 2, math.MinInt, math.MaxInt} {
		certify(view, vote(0), vote(1), vote(2)).mustBe(t, "no view", false)
		certify(view, vote(0, claim(1, 0, joinOf(1))), vote(1), vote(2)).mustBe(t, "no view, a claim", false)
	}
}

func TestP14HowManyVotes(t *testing.T) {
	for out := range keepers {
		var votes []impl.Vote
		for k := range keepers {
			if k != out {
				votes = append(votes, vote(k, claim(1+k, k%2, joinOf(1))))
			}
		}
		cert := certify(2, votes...)
		cert.mustBe(t, "Quorum votes", true)
		for i := range votes {
			cert.votes = slices.Delete(slices.Clone(votes), i, i+1)
			cert.mustBe(t, "one vote fewer", false)
			certify(2, cert.votes...).mustBe(t, "one vote fewer, just what it needs", false)
		}
		cert.votes = votes[:1]
		cert.mustBe(t, "one vote", false)
		cert.votes = nil
		cert.mustBe(t, "no votes", false)
	}
	certify(2, vote(0), vote(1), vote(2), vote(3)).mustBe(t, "one vote more", false)
	cert := goodCertificate()
	cert.votes = slices.Insert(cert.votes, 2, vote(2))
	cert.said = append(cert.said, turnOf(3, vote(2)))
	cert.mustBe(t, "one vote more with claims", false)
	cert.votes = slices.Delete(cert.votes, 2, 3)
	cert.mustBe(t, "Quorum votes of four", true)
}

func TestP14InvalidVotes(t *testing.T) {
	certify(2, vote(1), vote(0), vote(2)).mustBe(t, "first two descend", false)
	certify(2, vote(0), vote(3), vote(2)).mustBe(t, "last two descend", false)
	certify(2, vote(0), vote(1), vote(1)).mustBe(t, "last twice", false)
	certify(2, vote(0), vote(0), vote(1)).mustBe(t, "first twice", false)
	certify(2, vote(-1), vote(0), vote(1)).mustBe(t, "from -1", false)
	certify(2, vote(0), vote(1), vote(keepers)).mustBe(t, "from 4", false)
	a, b := claim(1, 0, joinOf(1)), claim(2, 1, joinOf(2))
	certify(2, vote(0), vote(1, a, b), vote(2)).mustBe(t, "claims ascend", true)
	certify(2, vote(0), vote(1, b, a), vote(2)).mustBe(t, "claims descend", false)
	certify(2, vote(0), vote(1, a, a), vote(2)).mustBe(t, "one claim twice", false)
	certify(2, vote(0), vote(1), vote(2, a, claim(1, 1, joinOf(2)))).mustBe(t, "two claims of one number", false)
	for name, claims := range badClaimLists() {
		for i := range quorum {
			votes := []impl.Vote{vote(0), vote(1), vote(2)}
			votes[i].Claims = claims
			certify(6, votes...).mustBe(t, name, false)
		}
	}
}

func TestP14EachMessageIsNeeded(t *testing.T) {
	whole := goodCertificate()
	whole.mustBe(t, "whole", true)
	for i := range whole.said {
		cert := whole
		cert.said = without(whole.said, i)
		cert.mustBe(t, "one message fewer", false)
	}
	slices.Reverse(whole.said)
	whole.mustBe(t, "in another order", true)
}

// turnsOff is messages that are not the MsgTurn of the vote.
func turnsOff(m impl.Msg) []impl.Msg {
	var list []impl.Msg
	for kind := -1; kind <= kindMax+1; kind++ {
		if kind != 5 {
			x := m
			x.Kind = kind
			list = append(list, x)
		}
	}
	for _, claims := range claimListsOff(m.Claims) {
		list = append(list, turnOf(m.View, vote(m.From, claims...)))
	}
	for _, n := range []int{-1, 1, keepers} {
		list = append(list, turnOf(m.View+n, vote(m.From, m.Claims...)), turnOf(m.View, vote(m.From+n, m.Claims...)))
	}
	return list
}

func TestP14AnotherTurn(t *testing.T) {
	whole := goodCertificate()
	for i, m := range whole.said {
		if m.Kind != 5 {
			continue
		}
		for _, x := range turnsOff(m) {
			cert := whole
			cert.said = slices.Clone(whole.said)
			cert.said[i] = x
			cert.mustBe(t, "another turn instead", false)
			cert.said = slices.Insert(cert.said, i+1, m)
			cert.mustBe(t, "another turn before", true)
			cert.said = append(without(cert.said, i), x)
			cert.mustBe(t, "another turn at the end", true)
		}
	}
}

func TestP14OtherFieldsOfTurn(t *testing.T) {
	whole := goodCertificate()
	for i, m := range whole.said {
		if m.Kind != 5 {
			continue
		}
		x, y, z := m, m, m
		x.Seq = 4
		y.Req = joinOf(3)
		z.Votes = []impl.Vote{vote(2), vote(1)}
		for _, turn := range []impl.Msg{x, y, z} {
			cert := whole
			cert.said = slices.Clone(whole.said)
			cert.said[i] = turn
			cert.mustBe(t, "a turn with other fields", true)
		}
	}
}

func TestP14OtherVotes(t *testing.T) {
	whole := goodCertificate()
	for _, votes := range listsOff(whole.votes, vote(2), votesOff) {
		cert := whole
		cert.votes = votes
		cert.mustBe(t, "other votes", false)
	}
	for _, view := range []int{-1, 0, 1, 2, 4, 5, 6, 7} {
		cert := whole
		cert.view = view
		cert.mustBe(t, "another view", false)
	}
	if impl.VotesOk(nil, 1, []impl.Vote{vote(0), vote(1), vote(2)}) || impl.VotesOk(nil, 1, nil) {
		t.Error("votes are valid though nothing was said")
	}
}

func TestP14ClaimNotPrepared(t *testing.T) {
	for _, c := range []impl.Claim{claim(1, 0, joinOf(1)), claim(5, 3, joinOf(2)), claim(2, 1, impl.Req{})} {
		for i := range quorum {
			votes := []impl.Vote{vote(0), vote(2), vote(3)}
			votes[i] = vote(votes[i].From, c)
			cert := certify(4, votes...)
			cert.mustBe(t, "prepared", true)
			at := slices.IndexFunc(cert.said, func(m impl.Msg) bool { return m.Kind == 3 })
			cert.said[at] = about(3, c.View%keepers, c)
			cert.mustBe(t, "the leader's yes", false)
			cert.said[at] = about(3, cert.said[at+1].From, c)
			cert.mustBe(t, "one yes twice", false)
			cert.said = append(cert.said, sureFrom(c, 0, 1, 2, 3)...)
			cert.mustBe(t, "sure only", false)
		}
	}
}

func TestP14SecondClaimNotPrepared(t *testing.T) {
	a, b, d := claim(1, 1, joinOf(1)), claim(2, 1, joinOf(2)), claim(3, 1, joinOf(3))
	for _, missing := range []impl.Claim{a, b, d} {
		cert := certify(2, vote(1), vote(2, a, b, d), vote(3, a))
		cert.mustBe(t, "all prepared", true)
		cert.said = slices.DeleteFunc(cert.said, func(m impl.Msg) bool { return modelSame(m, offer(missing)) })
		cert.mustBe(t, "one of them not prepared", false)
	}
}

func TestP14AddedAnywhere(t *testing.T) {
	whole := goodCertificate()
	extra := append(msgsOff(fullMsg()), fullMsg(), impl.Msg{}, turnOf(3, vote(0)), turnOf(3, vote(2)), turnOf(4, vote(1)), leadOf(3, 3, whole.votes...))
	for _, v := range whole.votes {
		extra = append(extra, turnsOff(turnOf(3, v))...)
	}
	for _, m := range extra {
		anywhere(whole.said, m, func(said []impl.Msg) {
			cert := whole
			cert.said = said
			cert.mustBe(t, "added", true)
		})
	}
}

// anyCertificate is votes for a view with what they need, but for a few messages that may be missing, more or of other votes.
func anyCertificate(c *chance) certificate {
	var votes []impl.Vote
	for from := range keepers {
		if c.below(5) > 0 {
			votes = append(votes, vote(from, anyClaims(c)...))
		}
	}
	cert := certify(c.below(lastView+2), votes...)
	for range c.below(3) {
		if len(cert.said) > 0 {
			cert.said = without(cert.said, c.below(len(cert.said)))
		}
	}
	for range c.below(3) {
		v := vote(c.below(keepers), anyClaims(c)...)
		cert.said = slices.Insert(cert.said, c.below(len(cert.said)+1), turnOf(cert.view, v))
	}
	return cert
}

func TestP14AnyVotes(t *testing.T) {
	c := &chance{state: 14}
	seen := map[bool]int{}
	for range 2500 {
		cert := anyCertificate(c)
		want := modelVotesOk(cert.said, cert.view, cert.votes)
		cert.mustBe(t, "any", want)
		seen[want]++
		if want {
			if len(cert.votes) != quorum {
				t.Fatalf("%d votes are valid", len(cert.votes))
			}
			more := cert
			more.said = append(slices.Clone(cert.said), heap(c, []impl.Claim{claim(1, c.below(3), joinOf(1))})...)
			more.mustBe(t, "any, and more", true)
			more.votes = cert.votes[:quorum-1]
			more.mustBe(t, "any, one vote fewer", false)
		}
	}
	if seen[true] < 100 || seen[false] < 100 {
		t.Errorf("the votes are valid and not: %v", seen)
	}
}

package tests

import (
	"math"
	"slices"
	"testing"

	"loop.example/wapentake/impl"
)

type pickCase struct {
	name  string
	votes []impl.Vote
	want  []impl.Req
}

func pickCases() []pickCase {
	null, a, b, d := impl.Req{}, joinOf(1), joinOf(2), joinOf(3)
	return []pickCase{
		{"no votes", nil, nil},
		{"votes without claims", []impl.Vote{vote(0), vote(1), vote(3)}, nil},
		{"one claim", []impl.Vote{vote(2, claim(1, 0, a))}, []impl.Req{a}},
		{"one claim of the last view", []impl.Vote{vote(3, claim(1, lastView, a))}, []impl.Req{a}},
		{"one claim of null", []impl.Vote{vote(0, claim(1, 2, null))}, []impl.Req{null}},
		{"nobody claimed 2", []impl.Vote{vote(0, claim(1, 0, a)), vote(1), vote(3, claim(3, 1, b))}, []impl.Req{a, null, b}},
		{"nobody claimed 2, in one vote", []impl.Vote{vote(1, claim(1, 3, a), claim(3, 3, b))}, []impl.Req{a, null, b}},
		{"only 5", []impl.Vote{vote(0), vote(1, claim(5, 2, a))}, []impl.Req{null, null, null, null, a}},
		{"null at the end", []impl.Vote{vote(0, claim(1, 0, a)), vote(1, claim(4, 0, null))}, []impl.Req{a, null, null, null}},
		{"later view second", []impl.Vote{vote(0, claim(1, 1, a)), vote(1, claim(1, 2, b))}, []impl.Req{b}},
		{"later view first", []impl.Vote{vote(0, claim(1, 2, a)), vote(1, claim(1, 1, b))}, []impl.Req{a}},
		{"later view between", []impl.Vote{vote(0, claim(1, 0, a)), vote(1, claim(1, 6, b)), vote(3, claim(1, 5, d))}, []impl.Req{b}},
		{"later view last", []impl.Vote{vote(0, claim(1, 4, a)), vote(1, claim(1, 5, b)), vote(3, claim(1, 6, d))}, []impl.Req{d}},
		{"one view", []impl.Vote{vote(0, claim(1, 1, a)), vote(1, claim(1, 1, b))}, []impl.Req{a}},
		{"one view, the other first", []impl.Vote{vote(0, claim(1, 1, b)), vote(1, claim(1, 1, a))}, []impl.Req{b}},
		{"view 0, first of three", []impl.Vote{vote(0, claim(2, 0, d)), vote(1, claim(2, 0, b)), vote(2, claim(2, 0, a))}, []impl.Req{null, d}},
		{"first of several in a later view", []impl.Vote{vote(0, claim(1, 1, d)), vote(1, claim(1, 3, b)), vote(2, claim(1, 3, a)), vote(3, claim(1, 2, d))}, []impl.Req{b}},
		{"null of a later view", []impl.Vote{vote(0, claim(1, 1, a)), vote(1, claim(1, 2, null))}, []impl.Req{null}},
		{"null of an earlier view", []impl.Vote{vote(0, claim(1, 1, null)), vote(1, claim(1, 2, a))}, []impl.Req{a}},
		{"null first in one view", []impl.Vote{vote(0, claim(1, 2, null)), vote(1, claim(1, 2, a))}, []impl.Req{null}},
		{"null second in one view", []impl.Vote{vote(0, claim(1, 2, a)), vote(1, claim(1, 2, null))}, []impl.Req{a}},
		{"null in view 0", []impl.Vote{vote(0, claim(1, 0, null)), vote(1, claim(1, 0, a))}, []impl.Req{null}},
		{"views differ by place", []impl.Vote{vote(0, claim(1, 3, a), claim(2, 1, a), claim(3, 2, a)), vote(2, claim(1, 2, b), claim(2, 2, b), claim(3, 2, b))}, []impl.Req{a, b, a}},
		{"one request twice", []impl.Vote{vote(0, claim(1, 0, a), claim(2, 0, a))}, []impl.Req{a, a}},
		{"all places", []impl.Vote{vote(0, claim(1, 0, a), claim(2, 0, b), claim(3, 0, d), claim(4, 0, b), claim(5, 0, a))}, []impl.Req{a, b, d, b, a}},
	}
}

func TestP12Cases(t *testing.T) {
	for _, p := range pickCases() {
		before := cloneVotes(p.votes)
		got := impl.PickAll(p.votes)
		if !slices.Equal(got, p.want) {
			t.Errorf("%s: %v, want %v", p.name, got, p.want)
		}
		for i := range got {
			got[i] = impl.Req{Client: 9}
		}
		if !slices.Equal(impl.PickAll(p.votes), p.want) {
			t.Errorf("%s: two results share memory", p.name)
		}
		mustStay(t, []impl.Msg{{Votes: p.votes}}, []impl.Msg{{Votes: before}})
	}
}

func TestP12InvalidVotes(t *testing.T) {
	for name, votes := range badVoteLists() {
		if got := impl.PickAll(votes); got != nil {
			t.Errorf("%s: %v, want nil", name, got)
		}
	}
	for _, n := range []int{math.MinInt, math.MaxInt, 1 << 40} {
		for _, c := range []impl.Claim{claim(n, 0, joinOf(1)), claim(1, n, joinOf(1))} {
			if got := impl.PickAll([]impl.Vote{vote(0, c)}); got != nil {
				t.Errorf("%v: %v, want nil", c, got)
			}
		}
		if got := impl.PickAll([]impl.Vote{vote(n, claim(1, 0, joinOf(1)))}); got != nil {
			t.Errorf("vote of %d: %v, want nil", n, got)
		}
	}
}

// anyClaims is valid claims of few requests and views, so that many are of one sequence number and view.
func anyClaims(c *chance) []impl.Claim {
	var list []impl.Claim
	for seq := 1; seq <= lastSeq; seq++ {
		if c.below(3) > 0 {
			continue
		}
		r := impl.Req{}
		if client := c.below(clients + 1); client > 0 {
			r = joinOf(client)
		}
		list = append(list, claim(seq, c.below(3)*c.below(3)+c.below(3), r))
	}
	return list
}

func anyVotes(c *chance) []impl.Vote {
	var votes []impl.Vote
	for from := range keepers {
		if c.below(4) > 0 {
			votes = append(votes, vote(from, anyClaims(c)...))
		}
	}
	return votes
}

func TestP12AnyVotes(t *testing.T) {
	c := &chance{state: 12}
	for range 5000 {
		votes := anyVotes(c)
		got := impl.PickAll(votes)
		if want := modelPicks(votes); !slices.Equal(got, want) {
			t.Fatalf("%v: %v, want %v", votes, got, want)
		}
		checkP12(t, votes, got)
	}
}

// checkP12 looks at what the promise says, and at nothing else.
func checkP12(t *testing.T, votes []impl.Vote, picks []impl.Req) {
	t.Helper()
	for i, r := range picks {
		latest, claimed := -1, false
		for _, v := range votes {
			for _, c := range v.Claims {
				if c.Seq == i+1 {
					latest = max(latest, c.View)
				}
			}
		}
		for _, v := range votes {
			claimed = claimed || slices.Contains(v.Claims, claim(i+1, latest, r))
		}
		if latest >= 0 && !claimed || latest < 0 && (r != impl.Req{} || i == len(picks)-1) {
			t.Fatalf("%v: %v is picked at %d", votes, r, i+1)
		}
	}
}

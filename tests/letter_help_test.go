package tests

import (
	"slices"
	"testing"

	"loop.example/wapentake/impl"
)

// The limits and kinds as the document gives them.
const (
	keepers  = 4
	quorum   = 3
	lastView = 6
	lastSeq  = 5
	kindMax  = 6
)

// joinOf is a valid request of a client.
func joinOf(client int) impl.Req {
	return impl.Req{Client: client, Num: 1, Op: 1}
}

func claim(seq, view int, r impl.Req) impl.Claim {
	return impl.Claim{Seq: seq, View: view, Req: r}
}

func vote(from int, claims ...impl.Claim) impl.Vote {
	return impl.Vote{From: from, Claims: claims}
}

func about(kind, from int, c impl.Claim) impl.Msg {
	return impl.Msg{Kind: kind, From: from, View: c.View, Seq: c.Seq, Req: c.Req}
}

func turnOf(view int, v impl.Vote) impl.Msg {
	return impl.Msg{Kind: 5, From: v.From, View: view, Claims: v.Claims}
}

func leadOf(from, view int, votes ...impl.Vote) impl.Msg {
	return impl.Msg{Kind: 6, From: from, View: view, Votes: votes}
}

func cloneVotes(votes []impl.Vote) []impl.Vote {
	var list []impl.Vote
	for _, v := range votes {
		list = append(list, impl.Vote{From: v.From, Claims: slices.Clone(v.Claims)})
	}
	return list
}

func cloneMsg(m impl.Msg) impl.Msg {
	m.Claims = slices.Clone(m.Claims)
	m.Votes = cloneVotes(m.Votes)
	return m
}

func cloneMsgs(list []impl.Msg) []impl.Msg {
	var out []impl.Msg
	for _, m := range list {
		out = append(out, cloneMsg(m))
	}
	return out
}

// emptied is the message with each nil slice made an empty one, and each empty one nil: the same value, as the document has it.
func emptied(m impl.Msg) impl.Msg {
	m = cloneMsg(m)
	m.Claims = emptiedClaims(m.Claims)
	for i := range m.Votes {
		m.Votes[i].Claims = emptiedClaims(m.Votes[i].Claims)
	}
	if len(m.Votes) == 0 {
		m.Votes = []impl.Vote{}
	}
	return m
}

func emptiedClaims(list []impl.Claim) []impl.Claim {
	if len(list) > 0 {
		return list
	}
	if list != nil {
		return nil
	}
	return []impl.Claim{}
}

// reqsOff is requests that differ from r in one field each, from each other as well.
func reqsOff(r impl.Req) []impl.Req {
	list := []impl.Req{r, r, r, r, r}
	list[0].Client++
	list[1].Num++
	list[2].Op++
	list[3].X++
	list[4].Y++
	return list
}

func claimsOff(c impl.Claim) []impl.Claim {
	list := []impl.Claim{claim(c.Seq+1, c.View, c.Req), claim(c.Seq, c.View+1, c.Req)}
	for _, r := range reqsOff(c.Req) {
		list = append(list, claim(c.Seq, c.View, r))
	}
	return list
}

// listsOff is lists that differ from list in one element: one of those that off gives, one more, one fewer, or two in each other's place.
func listsOff[T any](list []T, more T, off func(T) []T) [][]T {
	var out [][]T
	for i := range list {
		for _, x := range off(list[i]) {
			one := slices.Clone(list)
			one[i] = x
			out = append(out, one)
		}
		out = append(out, slices.Delete(slices.Clone(list), i, i+1))
		if i > 0 {
			one := slices.Clone(list)
			one[i-1], one[i] = one[i], one[i-1]
			out = append(out, one)
		}
	}
	for i := 0; i <= len(list); i++ {
		out = append(out, slices.Insert(slices.Clone(list), i, more))
	}
	return out
}

func claimListsOff(list []impl.Claim) [][]impl.Claim {
	return listsOff(list, impl.Claim{}, claimsOff)
}

func votesOff(v impl.Vote) []impl.Vote {
	list := []impl.Vote{vote(v.From+1, v.Claims...)}
	for _, claims := range claimListsOff(v.Claims) {
		list = append(list, vote(v.From, claims...))
	}
	return list
}

// msgsOff is messages that differ from m in one field each.
func msgsOff(m impl.Msg) []impl.Msg {
	list := []impl.Msg{m, m, m, m}
	list[0].Kind++
	list[1].From++
	list[2].View++
	list[3].Seq++
	add := func(change func(x *impl.Msg)) {
		x := m
		change(&x)
		list = append(list, x)
	}
	for _, r := range reqsOff(m.Req) {
		add(func(x *impl.Msg) { x.Req = r })
	}
	for _, claims := range claimListsOff(m.Claims) {
		add(func(x *impl.Msg) { x.Claims = claims })
	}
	for _, votes := range listsOff(m.Votes, impl.Vote{}, votesOff) {
		add(func(x *impl.Msg) { x.Votes = votes })
	}
	return list
}

// fullMsg has every field, as no valid message does.
func fullMsg() impl.Msg {
	a, b := claim(1, 2, impl.Req{Client: 1, Num: 2, Op: 5, X: 3, Y: 4}), claim(3, 1, impl.Req{})
	return impl.Msg{
		Kind: 3, From: 1, View: 2, Seq: 3, Req: impl.Req{Client: 2, Num: 3, Op: 5, X: 4, Y: 6},
		Claims: []impl.Claim{a, b, claim(5, 0, joinOf(3))},
		Votes:  []impl.Vote{vote(0, a, b), vote(2), vote(3, b)},
	}
}

type namedMsg struct {
	name string
	msg  impl.Msg
}

// goodMsgs is a valid message of each kind, first plain ones and then those at the limits.
func goodMsgs() []namedMsg {
	r := joinOf(2)
	low, high := claim(1, 0, impl.Req{}), claim(lastSeq, lastView, impl.Req{Client: 4, Num: 30, Op: 5, X: 4, Y: 9})
	var all []impl.Claim
	for seq := 1; seq <= lastSeq; seq++ {
		all = append(all, claim(seq, lastView-seq, r))
	}
	list := []namedMsg{
		{"ask", impl.Msg{Kind: 1, Req: r}},
		{"offer", about(2, 1, claim(2, 5, r))},
		{"yes", about(3, 2, claim(3, 4, r))},
		{"sure", about(4, 3, claim(4, 3, r))},
		{"turn", turnOf(2, vote(1, claim(1, 1, r), claim(4, 0, impl.Req{})))},
		{"lead", leadOf(2, 2, vote(0), vote(2, claim(2, 1, r)), vote(3, claim(1, 0, impl.Req{}), claim(2, 0, r)))},
		{"ask at the limits", impl.Msg{Kind: 1, Req: high.Req}},
		{"lowest offer", about(2, 0, claim(1, 0, r))},
		{"turn without claims", turnOf(0, vote(0))},
		{"turn with all claims", turnOf(lastView, vote(3, all...))},
		{"turn with claims of any view", turnOf(0, vote(3, low, high))},
		{"lead without votes", leadOf(0, 0)},
		{"lead with all votes", leadOf(3, lastView, vote(0, all...), vote(1, low), vote(2), vote(3, low, high))},
		{"lead of a view that From does not lead", leadOf(1, 2, vote(1))},
	}
	for kind := 2; kind <= 4; kind++ {
		list = append(list, namedMsg{"highest", about(kind, keepers-1, high)})
	}
	return append(list,
		namedMsg{"yes for null", about(3, 0, low)}, namedMsg{"sure for null", about(4, 0, low)},
		namedMsg{"last yes for null", about(3, 3, claim(lastSeq, lastView, impl.Req{}))})
}

// badClaimLists is lists that are no valid claims, each for one reason.
func badClaimLists() map[string][]impl.Claim {
	r := joinOf(1)
	c := claim(2, 3, r)
	list := map[string][]impl.Claim{
		"seq 0":               {claim(0, 3, r)},
		"seq -1":              {claim(-1, 3, r)},
		"seq 6":               {c, claim(lastSeq+1, 3, r)},
		"view -1":             {claim(2, -1, r)},
		"view 7":              {c, claim(3, lastView+1, r)},
		"zero claim":          {{}},
		"twice":               {c, c},
		"one seq, two views":  {c, claim(2, 4, r)},
		"descending":          {c, claim(1, 3, r)},
		"descending at last":  {claim(1, 3, r), claim(4, 3, r), claim(3, 3, r)},
		"six":                 {claim(1, 0, r), claim(2, 0, r), claim(3, 0, r), claim(4, 0, r), claim(5, 0, r), claim(6, 0, r)},
		"bad one at the last": {c, claim(3, 3, r), claim(4, 3, impl.Req{Client: 1})},
		"bad one at first":    {claim(2, 3, impl.Req{Num: 1}), claim(3, 3, r)},
	}
	for _, b := range badAsks() {
		list["request "+strQuote(b)] = []impl.Claim{claim(2, 3, b)}
	}
	return list
}

func badVoteLists() map[string][]impl.Vote {
	good := claim(1, 0, joinOf(1))
	list := map[string][]impl.Vote{
		"from -1":            {vote(-1, good)},
		"from 4":             {vote(1), vote(keepers, good)},
		"twice":              {vote(1, good), vote(1, good)},
		"twice at last":      {vote(0), vote(2), vote(2)},
		"descending":         {vote(2), vote(1)},
		"descending at last": {vote(0), vote(3), vote(2)},
		"five":               {vote(0), vote(1), vote(2), vote(3), vote(4)},
	}
	for name, claims := range badClaimLists() {
		list["claims: "+name] = []impl.Vote{vote(0, good), vote(1, claims...), vote(3)}
		list["first claims: "+name] = []impl.Vote{vote(0, claims...), vote(1, good)}
		list["last claims: "+name] = []impl.Vote{vote(0), vote(1, good), vote(3, claims...)}
	}
	return list
}

// anywhere calls look with each list that has m at one more place.
func anywhere(said []impl.Msg, m impl.Msg, look func(more []impl.Msg)) {
	for i := 0; i <= len(said); i++ {
		look(slices.Insert(slices.Clone(said), i, m))
	}
}

func without(said []impl.Msg, i int) []impl.Msg {
	return slices.Delete(slices.Clone(said), i, i+1)
}

// mustStay fails if said is not what it was before a call.
func mustStay(t *testing.T, said, before []impl.Msg) {
	t.Helper()
	if !slices.EqualFunc(said, before, modelSame) {
		t.Fatalf("the call changed its argument: %v, before %v", said, before)
	}
}

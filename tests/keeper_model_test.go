package tests

import (
	"slices"

	"loop.example/wapentake/impl"
)

// The rules of the chapter on replicas told a second time, plainly, as something to hold the program against.

func modelRepOk(r impl.Rep) bool {
	if r.Me < 0 || r.Me >= keepers || r.View < 0 || r.View > lastView || r.Next < 1 || r.Next > lastSeq+1 {
		return false
	}
	if len(r.Took) > tookMax || len(r.Heard) > heardMax || !modelClaimsOk(r.Done) {
		return false
	}
	for i, c := range r.Took {
		for _, d := range r.Took[:i] {
			if d.View == c.View && d.Seq == c.Seq {
				return false
			}
		}
		if !modelClaimOk(c) {
			return false
		}
	}
	for _, m := range r.Heard {
		if m.Kind < 3 || m.Kind > 5 || !modelMsgOk(m) {
			return false
		}
	}
	return true
}

// modelRep is a replica while an action is performed.
type modelRep struct {
	impl.Rep
	said, sent []impl.Msg
}

func modelHas(list []impl.Msg, m impl.Msg) bool {
	return slices.ContainsFunc(list, func(x impl.Msg) bool { return modelSame(x, m) })
}

func (k *modelRep) store(m impl.Msg) {
	if len(k.Heard) < heardMax && !modelHas(k.Heard, m) {
		k.Heard = append(k.Heard, m)
	}
}

// accept sends MsgYes whether it could be stored or not.
func (k *modelRep) accept(c impl.Claim) {
	k.Took = append(k.Took, c)
	if c.View%keepers != k.Me {
		yes := about(3, k.Me, c)
		k.store(yes)
		k.sent = append(k.sent, yes)
	}
}

func (k *modelRep) enter(view int, votes []impl.Vote) {
	picks := modelPicks(votes)
	k.View, k.Live, k.Next = view, true, len(picks)+1
	for i, r := range picks {
		k.accept(claim(i+1, view, r))
	}
}

func (k *modelRep) mayEnter(view int) bool {
	return view > k.View || view == k.View && !k.Live
}

// turned is what happens on a MsgTurn for the view.
func (k *modelRep) turned(view int) {
	if view%keepers != k.Me || !k.mayEnter(view) {
		return
	}
	var votes []impl.Vote
	for from := range keepers {
		for _, m := range k.Heard {
			good := m.Kind == 5 && m.From == from && m.View == view && modelHas(k.said, m)
			for _, c := range m.Claims {
				good = good && c.View < view && modelReady(k.said, c)
			}
			if good {
				votes = append(votes, vote(from, m.Claims...))
				break
			}
		}
	}
	if len(votes) >= quorum {
		votes = votes[:quorum]
		k.sent = append(k.sent, leadOf(k.Me, view, votes...))
		k.enter(view, votes)
	}
}

// heardFrom is how many replicas but one sent that kind of message for the claim.
func (k *modelRep) heardFrom(kind int, c impl.Claim, but int) int {
	from := map[int]bool{}
	for _, m := range k.Heard {
		if m.Kind == kind && m.View == c.View && m.Seq == c.Seq && m.Req == c.Req && m.From != but {
			from[m.From] = true
		}
	}
	return len(from)
}

func (k *modelRep) prepared(c impl.Claim) bool {
	return k.heardFrom(3, c, c.View%keepers) >= quorum-1
}

func (k *modelRep) finally() {
	for _, c := range k.Took {
		if !k.prepared(c) {
			continue
		}
		sure := about(4, k.Me, c)
		if k.Live && c.View == k.View && !modelHas(k.Heard, sure) {
			k.store(sure)
			k.sent = append(k.sent, sure)
		}
		known := slices.ContainsFunc(k.Done, func(d impl.Claim) bool { return d.Seq == c.Seq })
		if k.heardFrom(4, c, -1) >= quorum && !known {
			k.Done = append(k.Done, c)
			slices.SortFunc(k.Done, func(a, b impl.Claim) int { return a.Seq - b.Seq })
		}
	}
}

func (k *modelRep) asked(r impl.Req) {
	known := slices.ContainsFunc(k.Took, func(c impl.Claim) bool { return c.View == k.View && c.Req == r })
	if k.Live && k.View%keepers == k.Me && k.Next <= lastSeq && !known {
		c := claim(k.Next, k.View, r)
		k.Took = append(k.Took, c)
		k.Next++
		k.sent = append(k.sent, about(2, k.Me, c))
	}
}

func (k *modelRep) offered(m impl.Msg) {
	known := slices.ContainsFunc(k.Took, func(c impl.Claim) bool { return c.View == m.View && c.Seq == m.Seq })
	if k.Live && m.View == k.View && m.From == k.View%keepers && m.From != k.Me && !known && modelHas(k.said, askOf(m.Req)) {
		k.accept(claim(m.Seq, m.View, m.Req))
	}
}

func modelHear(r impl.Rep, m impl.Msg, said []impl.Msg) (impl.Rep, []impl.Msg) {
	if !modelRepOk(r) || !modelMsgOk(m) {
		return impl.Rep{}, nil
	}
	if !modelHas(said, m) {
		return r, nil
	}
	k := &modelRep{Rep: cloneRep(r), said: said}
	if m.Kind >= 3 && m.Kind <= 5 {
		k.store(m)
	}
	switch m.Kind {
	case 1:
		k.asked(m.Req)
	case 2:
		k.offered(m)
	case 5:
		k.turned(m.View)
	case 6:
		if m.From == m.View%keepers && m.From != k.Me && k.mayEnter(m.View) && modelVotesOk(said, m.View, m.Votes) {
			k.enter(m.View, m.Votes)
		}
	}
	k.finally()
	return k.Rep, k.sent
}

func modelTurn(r impl.Rep, said []impl.Msg) (impl.Rep, []impl.Msg) {
	if !modelRepOk(r) {
		return impl.Rep{}, nil
	}
	if r.View == lastView {
		return r, nil
	}
	k := &modelRep{Rep: cloneRep(r)}
	k.View, k.Live = r.View+1, false
	var claims []impl.Claim
	for seq := 1; seq <= lastSeq; seq++ {
		for view := lastView; view >= 0; view-- {
			at := slices.IndexFunc(k.Took, func(c impl.Claim) bool { return c.Seq == seq && c.View == view && k.prepared(c) })
			if at >= 0 {
				claims = append(claims, k.Took[at])
				break
			}
		}
	}
	m := turnOf(k.View, vote(k.Me, claims...))
	k.store(m)
	k.sent = append(k.sent, m)
	k.said = append(slices.Clone(said), m)
	k.turned(k.View)
	return k.Rep, k.sent
}

func modelRepList(r impl.Rep) []impl.Req {
	var list []impl.Req
	if !modelRepOk(r) {
		return list
	}
	for seq := 1; ; seq++ {
		at := slices.IndexFunc(r.Done, func(c impl.Claim) bool { return c.Seq == seq })
		if at < 0 {
			return list
		}
		list = append(list, r.Done[at].Req)
	}
}

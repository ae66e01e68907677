package tests

import (
	"fmt"
	"slices"

	"loop.example/wapentake/impl"
)

// The rules of the chapters on messages and certificates told a second time, plainly, as something to hold the program against.

func strQuote(r impl.Req) string {
	return fmt.Sprintf("%v", r)
}

func modelSame(a, b impl.Msg) bool {
	// Most pairs differ in these; to write them all as text would take long.
	if a.Kind != b.Kind || a.From != b.From || a.View != b.View || a.Seq != b.Seq {
		return false
	}
	return fmt.Sprintf("%v", a) == fmt.Sprintf("%v", b)
}

func modelReqOk(r impl.Req) bool {
	if r.Client < 1 || r.Client > clients || r.Num < 1 || r.Num > numbers {
		return false
	}
	return slices.Contains(asksOf(r.Client, r.Num), r)
}

func modelClaimOk(c impl.Claim) bool {
	return c.Seq >= 1 && c.Seq <= lastSeq && c.View >= 0 && c.View <= lastView && (c.Req == impl.Req{} || modelReqOk(c.Req))
}

func modelClaimsOk(list []impl.Claim) bool {
	for i, c := range list {
		if !modelClaimOk(c) || i > 0 && list[i-1].Seq >= c.Seq {
			return false
		}
	}
	return true
}

func modelVotesValid(votes []impl.Vote) bool {
	for i, v := range votes {
		if v.From < 0 || v.From >= keepers || !modelClaimsOk(v.Claims) || i > 0 && votes[i-1].From >= v.From {
			return false
		}
	}
	return true
}

func modelMsgOk(m impl.Msg) bool {
	fromAndView := m.From >= 0 && m.From < keepers && m.View >= 0 && m.View <= lastView
	noLists := len(m.Claims) == 0 && len(m.Votes) == 0
	null := m.Req == impl.Req{}
	switch m.Kind {
	case 1:
		return m.From == 0 && m.View == 0 && m.Seq == 0 && noLists && modelReqOk(m.Req)
	case 2:
		return fromAndView && m.Seq >= 1 && m.Seq <= lastSeq && noLists && modelReqOk(m.Req)
	case 3, 4:
		return fromAndView && m.Seq >= 1 && m.Seq <= lastSeq && noLists && (null || modelReqOk(m.Req))
	case 5:
		return fromAndView && m.Seq == 0 && null && len(m.Votes) == 0 && modelClaimsOk(m.Claims)
	case 6:
		return fromAndView && m.Seq == 0 && null && len(m.Claims) == 0 && modelVotesValid(m.Votes)
	}
	return false
}

// modelPicks takes any votes whose largest claimed number is small.
func modelPicks(votes []impl.Vote) []impl.Req {
	var all []impl.Claim
	top := 0
	for _, v := range votes {
		all = append(all, v.Claims...)
	}
	for _, c := range all {
		top = max(top, c.Seq)
	}
	slices.SortStableFunc(all, func(a, b impl.Claim) int { return b.View - a.View })
	var picks []impl.Req
	for seq := 1; seq <= top; seq++ {
		pick := impl.Req{}
		if i := slices.IndexFunc(all, func(c impl.Claim) bool { return c.Seq == seq }); i >= 0 {
			pick = all[i].Req
		}
		picks = append(picks, pick)
	}
	return picks
}

// modelCount is how many replicas sent that kind of message for the claim, but for one of them.
func modelCount(said []impl.Msg, kind int, c impl.Claim, but int) int {
	n := 0
	for k := range keepers {
		if k != but && slices.ContainsFunc(said, func(m impl.Msg) bool { return modelSame(m, about(kind, k, c)) }) {
			n++
		}
	}
	return n
}

func modelReady(said []impl.Msg, c impl.Claim) bool {
	if !modelClaimOk(c) {
		return false
	}
	leader := c.View % keepers
	proposed := false
	for _, m := range said {
		if m.From != leader || m.View != c.View {
			continue
		}
		if m.Kind == 2 && m.Seq == c.Seq && m.Req == c.Req {
			proposed = true
		}
		if m.Kind == 6 {
			picks := modelPicks(m.Votes)
			proposed = proposed || len(picks) >= c.Seq && picks[c.Seq-1] == c.Req
		}
	}
	return proposed && modelCount(said, 3, c, leader) >= quorum-1
}

func modelDone(said []impl.Msg, c impl.Claim) bool {
	return modelReady(said, c) && modelCount(said, 4, c, -1) >= quorum
}

func modelVotesOk(said []impl.Msg, view int, votes []impl.Vote) bool {
	if view < 0 || view > lastView || len(votes) != quorum || !modelVotesValid(votes) {
		return false
	}
	for _, v := range votes {
		if !slices.ContainsFunc(said, func(m impl.Msg) bool { return modelSame(m, turnOf(view, v)) }) {
			return false
		}
		for _, c := range v.Claims {
			if c.View >= view || !modelReady(said, c) {
				return false
			}
		}
	}
	return true
}

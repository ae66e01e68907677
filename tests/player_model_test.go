package tests

import (
	"slices"

	"loop.example/wapentake/impl"
)

// The rules of the chapter on clients told a second time.

func modelReplyOk(r impl.Reply) bool {
	return 0 <= r.From && r.From < keepers && 1 <= r.Num && r.Num <= numbers && 0 <= r.Code && r.Code <= 8 && 0 <= r.Sum && r.Sum < 1<<32
}

func modelPlayerOk(p impl.Player) bool {
	froms := map[int]bool{}
	for _, r := range p.Replies {
		if !modelReplyOk(r) || r.Num != p.Req.Num || froms[r.From] {
			return false
		}
		froms[r.From] = true
	}
	return modelReqOk(p.Req)
}

func modelPlayerHear(p impl.Player, r impl.Reply) (impl.Player, bool) {
	if !modelPlayerOk(p) {
		return impl.Player{}, false
	}
	if next := player(p.Req, append(slices.Clone(p.Replies), r)...); modelPlayerOk(next) {
		return next, true
	}
	return p, false
}

func modelPlayerSure(p impl.Player) (impl.Reply, bool) {
	if !modelPlayerOk(p) {
		return impl.Reply{}, false
	}
	type answer struct{ code, sum int }
	times := map[answer]int{}
	for _, r := range p.Replies {
		times[answer{r.Code, r.Sum}]++
	}
	for _, r := range p.Replies {
		if times[answer{r.Code, r.Sum}] >= 2 {
			return r, true
		}
	}
	return impl.Reply{}, false
}

func modelPlayerAsk(p impl.Player, r impl.Req) (impl.Player, bool) {
	if _, sure := modelPlayerSure(p); sure && modelReqOk(r) && r.Client == p.Req.Client && r.Num > p.Req.Num {
		return player(r), true
	}
	return p, false
}

// modelReplyOf asks the program only whether the state is valid and how it is written.
func modelReplyOf(from int, g impl.Game, r impl.Req) (impl.Reply, bool) {
	if from < 0 || from >= keepers || !impl.GameOk(g) || !modelReqOk(r) {
		return impl.Reply{}, false
	}
	m := modelOf(g)
	code := m.play(r)
	return reply(from, r.Num, code, sumOf(impl.GamePut(m.game()))), true
}

package tests

import (
	"slices"

	"loop.example/wapentake/impl"
)

func modelAheadOk(a impl.Ahead) bool {
	all := slices.Concat(a.Done, a.Wait)
	return len(all) <= folds && modelAllOkOrNull(all) && a.Back >= 0 && a.Back <= backMax
}

func modelPush(a impl.Ahead, r impl.Req) (impl.Ahead, bool) {
	if !modelAheadOk(a) {
		return impl.Ahead{}, false
	}
	if !modelReqOk(r) || len(a.Done)+len(a.Wait) == folds {
		return a, false
	}
	return ahead(a.Back, a.Done, slices.Concat(a.Wait, []impl.Req{r})), true
}

func modelKeep(a impl.Ahead, r impl.Req) (impl.Ahead, bool) {
	if !modelAheadOk(a) {
		return impl.Ahead{}, false
	}
	var wait []impl.Req
	found := false
	for _, w := range a.Wait {
		if w == r && !found {
			found = true
			continue
		}
		wait = append(wait, w)
	}
	if !modelOkOrNull(r) || !found && len(a.Done)+len(a.Wait) == folds {
		return a, false
	}
	back := a.Back
	if len(a.Wait) > 0 && a.Wait[0] != r && back < backMax {
		back++
	}
	return ahead(back, slices.Concat(a.Done, []impl.Req{r}), wait), true
}

// modelLooks is the state for sure, the state ahead, and the codes in between.
func modelLooks(a impl.Ahead) (impl.Game, impl.Game, []int) {
	if !modelAheadOk(a) {
		return impl.Game{}, impl.Game{}, nil
	}
	m := modelOf(impl.GameNew())
	for _, r := range a.Done {
		m.play(r)
	}
	sure := m.game()
	var codes []int
	for _, r := range a.Wait {
		codes = append(codes, m.play(r))
	}
	return sure, m.game(), codes
}

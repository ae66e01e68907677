package tests

import (
	"slices"

	"loop.example/wapentake/impl"
)

// The rules of the chapter on the network told a second time, plainly, as something to hold the program against. What a replica does is left to RepHear and RepTurn, which have a model of their own.

func modelWorldOk(w impl.World) bool {
	if w.Bad < 0 || w.Bad >= keepers || len(w.Reps) != keepers || len(w.Said) > saidMax {
		return false
	}
	for me := range keepers {
		if w.Reps[me].Me != me || !modelRepOk(w.Reps[me]) {
			return false
		}
	}
	for _, m := range w.Said {
		if !modelMsgOk(m) {
			return false
		}
	}
	return true
}

// equalIn is modelHas without the text.
func equalIn(list []impl.Msg, m impl.Msg) bool {
	return slices.ContainsFunc(list, func(x impl.Msg) bool { return equalMsg(x, m) })
}

// modelSend returns the world, as it was, and false if there is no room.
func modelSend(w impl.World, list ...impl.Msg) (impl.World, bool) {
	out := cloneWorld(w)
	for _, m := range list {
		if !equalIn(out.Said, m) {
			out.Said = append(out.Said, cloneMsg(m))
		}
	}
	if len(out.Said) > saidMax {
		return w, false
	}
	return out, true
}

func modelDo(w impl.World, e impl.Event) (impl.World, bool) {
	if !modelWorldOk(w) {
		return impl.World{}, false
	}
	return modelStep(w, e)
}

// modelStep takes a world that is known to be valid.
func modelStep(w impl.World, e impl.Event) (impl.World, bool) {
	m := impl.Msg{Kind: 1, Req: e.Msg.Req}
	if e.Kind == 4 {
		m = e.Msg
		m.From = w.Bad
	}
	switch e.Kind {
	case 1, 4:
		if !modelMsgOk(m) || equalIn(w.Said, m) || e.Kind == 4 && m.Kind == 1 {
			return w, false
		}
		return modelSend(w, m)
	case 2, 3:
		return modelAct(w, e)
	}
	return w, false
}

func modelAct(w impl.World, e impl.Event) (impl.World, bool) {
	if e.To < 0 || e.To >= keepers || e.To == w.Bad {
		return w, false
	}
	var r impl.Rep
	var sent []impl.Msg
	if e.Kind == 2 {
		if e.At < 0 || e.At >= len(w.Said) {
			return w, false
		}
		r, sent = impl.RepHear(w.Reps[e.To], w.Said[e.At], w.Said)
	} else {
		if w.Reps[e.To].View >= lastView {
			return w, false
		}
		r, sent = impl.RepTurn(w.Reps[e.To], w.Said)
	}
	out, ok := modelSend(w, sent...)
	if ok {
		out.Reps[e.To] = r
	}
	return out, ok
}

func modelNew(bad int) impl.World {
	if bad < 0 || bad >= keepers {
		return impl.World{}
	}
	return worldWith(bad)
}

func modelPlay(bad int, list []impl.Event) impl.World {
	w := modelNew(bad)
	for i, e := range list {
		if i < playMax {
			w, _ = modelDo(w, e)
		}
	}
	return w
}

// modelCalm has each message received as by an event: without room for the answer, it is not received. A replica that becomes invalid receives messages as the others do.
func modelCalm(w impl.World, rounds int) impl.World {
	if !modelWorldOk(w) || rounds < 0 || rounds > calmMax {
		return impl.World{}
	}
	for range rounds {
		for at := 0; at < len(w.Said); at++ {
			for to := range keepers {
				if next, ok := modelStep(w, hearEvent(at, to)); ok {
					w = next
				}
			}
		}
	}
	return w
}

func modelAgree(w impl.World) bool {
	if !modelWorldOk(w) {
		return false
	}
	for a := range keepers {
		for _, c := range w.Reps[a].Done {
			if a == w.Bad {
				continue
			}
			if c.Req != (impl.Req{}) && !equalIn(w.Said, askOf(c.Req)) {
				return false
			}
			for b := range keepers {
				for _, d := range w.Reps[b].Done {
					if b != w.Bad && c.Seq == d.Seq && c.Req != d.Req {
						return false
					}
				}
			}
		}
	}
	return true
}

func modelGame(w impl.World, keeper int) impl.Game {
	if !modelWorldOk(w) || keeper < 0 || keeper >= keepers {
		return impl.Game{}
	}
	m := modelOf(impl.GameNew())
	for _, r := range modelRepList(w.Reps[keeper]) {
		m.play(r)
	}
	return m.game()
}

package tests

import (
	"math"
	"slices"
	"strconv"
	"strings"
	"testing"

	"loop.example/wapentake/impl"
)

func TestLimitsOfWorlds(t *testing.T) {
	if impl.SaidMax != saidMax || impl.PlayMax != playMax || impl.CalmMax != calmMax {
		t.Errorf("SaidMax is %d, PlayMax %d, CalmMax %d", impl.SaidMax, impl.PlayMax, impl.CalmMax)
	}
	kinds := []int{impl.EventAsk, impl.EventHear, impl.EventTurn, impl.EventFake}
	if !slices.Equal(kinds, []int{1, 2, 3, 4}) {
		t.Errorf("the kinds of events are %v", kinds)
	}
}

func notReplicas() []int {
	return []int{-1, keepers, keepers + 1, -keepers, 1 << 32, math.MinInt, math.MaxInt}
}

func TestP20EachReplicaAsBad(t *testing.T) {
	for bad := range keepers {
		got := ownWorld(t, impl.World{}, func(impl.World) impl.World { return impl.WorldNew(bad) })
		mustBeWorld(t, "new", got, worldWith(bad))
		mustBeWorld(t, "new once more", impl.WorldNew(bad), worldWith(bad))
		if !impl.WorldOk(got) || !impl.WorldAgree(got) {
			t.Errorf("Bad is %d: WorldOk is %v and WorldAgree %v", bad, impl.WorldOk(got), impl.WorldAgree(got))
		}
		checkPlayed(t, got)
		for k := range keepers {
			mustPlayGame(t, got, k, impl.GameNew())
		}
		mustHaveListed(t, "new", calm(t, got, calmMax))
	}
}

func TestP20NoReplicaAsBad(t *testing.T) {
	for _, bad := range notReplicas() {
		w := impl.WorldNew(bad)
		mustBeZeroWorld(t, "WorldNew", w)
		if impl.WorldOk(w) || impl.WorldAgree(w) {
			t.Errorf("Bad is %d: WorldOk is %v and WorldAgree %v", bad, impl.WorldOk(w), impl.WorldAgree(w))
		}
		mustBeZeroWorld(t, "WorldPlay", impl.WorldPlay(bad, nil))
		mustBeZeroWorld(t, "WorldPlay with an event", impl.WorldPlay(bad, []impl.Event{askEvent(joinOf(1))}))
	}
}

// someAsks is n different requests.
func someAsks(n int) []impl.Req {
	var list []impl.Req
	for i := range n {
		list = append(list, impl.Req{Client: 1 + i%clients, Num: 1 + i/clients, Op: 2, X: 1, Y: i%3 - 1})
	}
	return list
}

// busyWorld has something in every list, and replicas in several views. Play cannot reach it.
func busyWorld() impl.World {
	a, b := claim(1, 0, joinOf(1)), claim(2, 1, joinOf(2))
	w := worldWith(1, msgs(asksFrom(joinOf(1), joinOf(2)), readySaid(a), sureFrom(a, 0, 2, 3), []impl.Msg{turnOf(1, vote(2, a)), leadOf(1, 1, vote(0), vote(2, a), vote(3))})...)
	for me := range w.Reps {
		r := busyRep()
		r.Me, r.View, r.Live, r.Next = me, me%2, me < 3, 1+me
		w.Reps[me] = r
	}
	w.Reps[0].Done = nil
	w.Reps[2].Done = []impl.Claim{a, b}
	w.Reps[3].Done = []impl.Claim{a}
	return w
}

// goodWorlds is valid worlds, at each limit.
func goodWorlds() map[string]impl.World {
	list := map[string]impl.World{"busy": busyWorld(), "new": worldWith(3)}
	add := func(name string, change func(w *impl.World)) {
		w := busyWorld()
		change(&w)
		list[name] = w
	}
	for bad := range keepers {
		add("Bad is "+strconv.Itoa(bad), func(w *impl.World) { w.Bad = bad })
	}
	add("nothing was sent", func(w *impl.World) { w.Said = nil })
	add("SaidMax messages", func(w *impl.World) { w.Said = asksFrom(someAsks(saidMax)...) })
	add("SaidMax times one message", func(w *impl.World) { w.Said = slices.Repeat(w.Said[:1], saidMax) })
	for name, r := range goodReps() {
		for me := range keepers {
			add("replica "+strconv.Itoa(me)+" is "+name, func(w *impl.World) {
				r.Me = me
				w.Reps[me] = cloneRep(r)
			})
		}
	}
	for _, g := range goodMsgs() {
		add("sent "+g.name, func(w *impl.World) { w.Said = append(w.Said, g.msg) })
	}
	return list
}

// badWorlds is worlds that each break one rule of WorldOk.
func badWorlds() map[string]impl.World {
	list := map[string]impl.World{"zero": {}}
	add := func(name string, change func(w *impl.World)) {
		w := busyWorld()
		change(&w)
		list[name] = w
	}
	for _, bad := range notReplicas() {
		add("Bad is "+strconv.Itoa(bad), func(w *impl.World) { w.Bad = bad })
	}
	for n := range keepers {
		add("only "+strconv.Itoa(n)+" replicas", func(w *impl.World) { w.Reps = w.Reps[:n] })
		add("without replica "+strconv.Itoa(n), func(w *impl.World) { w.Reps = slices.Delete(w.Reps, n, n+1) })
		add("replica "+strconv.Itoa(n)+" twice", func(w *impl.World) { w.Reps = slices.Insert(w.Reps, n, cloneRep(w.Reps[n])) })
		add("replica "+strconv.Itoa(n)+" once more at the end", func(w *impl.World) { w.Reps = append(w.Reps, cloneRep(w.Reps[n])) })
		for k := range n {
			add("replicas "+strconv.Itoa(k)+" and "+strconv.Itoa(n)+" in each other's place", func(w *impl.World) {
				w.Reps[k], w.Reps[n] = w.Reps[n], w.Reps[k]
			})
			add("replica "+strconv.Itoa(k)+" in the place of "+strconv.Itoa(n), func(w *impl.World) { w.Reps[n].Me = k })
		}
	}
	addBadReps(add)
	addBadSaid(add)
	return list
}

func addBadReps(add func(name string, change func(w *impl.World))) {
	for name, r := range badReps() {
		for me := range keepers {
			add("replica "+strconv.Itoa(me)+": "+name, func(w *impl.World) {
				if !strings.HasPrefix(name, "me ") {
					r.Me = me
				}
				w.Reps[me] = cloneRep(r)
			})
			add("replica "+strconv.Itoa(me)+" is Bad: "+name, func(w *impl.World) {
				if !strings.HasPrefix(name, "me ") {
					r.Me = me
				}
				w.Bad, w.Reps[me] = me, cloneRep(r)
			})
		}
	}
}

func addBadSaid(add func(name string, change func(w *impl.World))) {
	add("101 messages", func(w *impl.World) { w.Said = asksFrom(someAsks(saidMax + 1)...) })
	add("102 messages", func(w *impl.World) { w.Said = asksFrom(someAsks(saidMax + 2)...) })
	add("101 times one message", func(w *impl.World) { w.Said = slices.Repeat(w.Said[:1], saidMax+1) })
	bad := append(badStored(), askOf(impl.Req{}), about(2, 1, claim(1, 1, impl.Req{})), fullMsg(), impl.Msg{Kind: kindMax + 1})
	for _, r := range badAsks() {
		bad = append(bad, askOf(r), about(2, 1, claim(1, 1, r)))
	}
	for _, votes := range badVoteLists() {
		bad = append(bad, leadOf(1, 1, votes...))
	}
	for i, m := range bad {
		add("sent first: invalid "+strconv.Itoa(i), func(w *impl.World) { w.Said = append([]impl.Msg{m}, w.Said...) })
		add("sent last: invalid "+strconv.Itoa(i), func(w *impl.World) { w.Said = append(w.Said, m) })
		add("sent alone: invalid "+strconv.Itoa(i), func(w *impl.World) { w.Said = []impl.Msg{m} })
	}
}

func TestP20ValidWorlds(t *testing.T) {
	for name, w := range goodWorlds() {
		before := cloneWorld(w)
		if !impl.WorldOk(w) {
			t.Errorf("%s: not valid: %v", name, w)
		}
		if !modelWorldOk(w) {
			t.Errorf("%s: the model finds it not valid: %v", name, w)
		}
		mustBeWorld(t, name, w, before)
	}
}

// eventsFor is an event of each kind, which would be possible in a world like busyWorld.
func eventsFor(bad int) []impl.Event {
	to := (bad + 1) % keepers
	return []impl.Event{askEvent(joinOf(3)), hearEvent(0, to), turnEvent(to), fakeEvent(about(3, 0, claim(5, 5, joinOf(4))))}
}

func TestP21InvalidWorlds(t *testing.T) {
	for name, w := range badWorlds() {
		if impl.WorldOk(w) {
			t.Fatalf("%s: valid: %v", name, w)
		}
		if modelWorldOk(w) {
			t.Fatalf("%s: the model finds it valid: %v", name, w)
		}
		if impl.WorldAgree(w) {
			t.Errorf("%s: WorldAgree holds", name)
		}
		for _, e := range append(eventsFor(w.Bad), impl.Event{}) {
			got, done := impl.WorldDo(w, e)
			mustBeZeroWorld(t, name+": WorldDo", got)
			if done {
				t.Errorf("%s: %v is possible", name, e)
			}
		}
		for rounds := 0; rounds <= calmMax; rounds++ {
			mustBeZeroWorld(t, name+": WorldCalm", impl.WorldCalm(w, rounds))
		}
		for k := range keepers {
			if g := impl.WorldGame(w, k); !isZeroGame(g) {
				t.Errorf("%s: WorldGame of %d is %v", name, k, g)
			}
		}
	}
}

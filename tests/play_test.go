package tests

import (
	"slices"
	"testing"

	"loop.example/wapentake/impl"
)

// played is WorldPlay, held against the model and against WorldDo for each event in order.
func played(t *testing.T, bad int, list []impl.Event) impl.World {
	t.Helper()
	args := roomy(list, impl.Event{Kind: -7})
	for i := range args {
		args[i].Msg = roomyMsg(args[i].Msg)
	}
	var sent []impl.Msg
	for _, e := range args {
		sent = append(sent, e.Msg)
	}
	got := ownWorld(t, impl.World{}, func(impl.World) impl.World { return impl.WorldPlay(bad, args) })
	for i, e := range list {
		if args[i].Kind != e.Kind || args[i].At != e.At || args[i].To != e.To || !equalMsg(sent[i], e.Msg) {
			t.Fatalf("event %d is changed, or shares memory with the result: %v, before %v", i, args[i], e)
		}
	}
	w := impl.WorldNew(bad)
	for _, e := range list[:min(playMax, len(list))] {
		if next, ok := impl.WorldDo(w, e); ok {
			w = next
		}
	}
	mustBeWorld(t, "WorldPlay, and WorldDo in order", got, w)
	if want := modelPlay(bad, list); !equalWorld(got, want) {
		t.Fatalf("WorldPlay is\n%v\nthe model has\n%v", got, want)
	}
	return got
}

func askEvents(n int) []impl.Event {
	var list []impl.Event
	for _, r := range someAsks(n) {
		list = append(list, askEvent(r))
	}
	return list
}

func TestP22NoEvents(t *testing.T) {
	for bad := range keepers {
		mustBeWorld(t, "no events", played(t, bad, nil), worldWith(bad))
		mustBeWorld(t, "no events", played(t, bad, []impl.Event{}), worldWith(bad))
	}
}

func TestP22PlayMax(t *testing.T) {
	for _, n := range []int{1, playMax - 1, playMax, playMax + 1, playMax + 9, 2 * playMax} {
		w := played(t, 2, askEvents(min(n, 120)))
		if len(w.Said) != min(n, playMax) {
			t.Errorf("%d events: %d messages", n, len(w.Said))
		}
	}
}

// TestP22LastEvent has an event of each kind as the last that is performed, and as the first that is not.
func TestP22LastEvent(t *testing.T) {
	for _, e := range []impl.Event{askEvent(joinOf(4)), hearEvent(0, 0), turnEvent(2), fakeEvent(turnOf(1, vote(3)))} {
		before := askEvents(playMax - 1)
		short := played(t, 3, before)
		last := played(t, 3, append(slices.Clone(before), e))
		if len(last.Said) != playMax || equalWorld(last, short) {
			t.Errorf("%v is not performed", e)
		}
		full := append(slices.Clone(before), askEvent(joinOf(3)))
		mustBeWorld(t, "one more than PlayMax", played(t, 3, append(slices.Clone(full), e)), played(t, 3, full))
	}
}

// notPossible is events that are not possible in any world that was played, with the number of messages as At.
func notPossible(bad, many int) []impl.Event {
	return []impl.Event{
		{}, {Kind: 5}, askEvent(impl.Req{}), hearEvent(many, (bad+1)%keepers), hearEvent(-1, 0), hearEvent(0, bad),
		turnEvent(bad), turnEvent(keepers), turnEvent(-1), fakeEvent(askOf(joinOf(4))), fakeEvent(impl.Msg{}), fakeEvent(fullMsg()),
	}
}

// TestP22NotPossibleInBetween has events that are not possible before, between and after the others: they count, and change nothing.
func TestP22NotPossibleInBetween(t *testing.T) {
	for bad := 1; bad < keepers; bad++ {
		good := []impl.Event{askEvent(joinOf(1)), hearEvent(0, 0), hearEvent(1, 1+bad%3), turnEvent(0), askEvent(joinOf(2)), fakeEvent(turnOf(2, vote(0)))}
		want := played(t, bad, good)
		if len(want.Said) != 6 {
			t.Fatalf("Bad is %d: sent %v", bad, want.Said)
		}
		for i := 0; i <= len(good); i++ {
			list := slices.Insert(slices.Clone(good), i, notPossible(bad, 99)...)
			mustBeWorld(t, "not possible", played(t, bad, list), want)
			twice := slices.Insert(slices.Clone(good), i, good[:i]...)
			if i > 0 && twice[i].Kind == 1 {
				twice = append(slices.Clone(good[:i]), append([]impl.Event{good[0]}, good[i:]...)...)
				mustBeWorld(t, "asked already", played(t, bad, twice), want)
			}
		}
		none := slices.Repeat(notPossible(bad, 99), 10)
		mustBeWorld(t, "only events that are not possible", played(t, bad, none), worldWith(bad))
		late := append(slices.Clone(none[:playMax-1]), good...)
		mustBeWorld(t, "they count", played(t, bad, late), played(t, bad, good[:1]))
		late = append(slices.Clone(none[:playMax]), good...)
		mustBeWorld(t, "they count", played(t, bad, late), worldWith(bad))
	}
}

// TestP22AnyEvents has events of which many are not possible.
func TestP22AnyEvents(t *testing.T) {
	c := &chance{state: 22}
	longest := 0
	for i := range 40 {
		list := anyEvents(c, i%keepers, c.below(playMax+20))
		w := played(t, i%keepers, list)
		longest = max(longest, len(w.Said))
		checkPlayed(t, w)
	}
	if longest < 30 {
		t.Errorf("no run sent more than %d messages", longest)
	}
}

func anyEvents(c *chance, bad, n int) []impl.Event {
	var list []impl.Event
	for range n {
		to := c.below(keepers+2) - 1
		switch k := c.below(20); {
		case k < 4:
			list = append(list, askEvent(someAsks(30)[c.below(30)]))
		case k == 4:
			list = append(list, turnEvent(to))
		case k < 7:
			list = append(list, fakeEvent((&table{bad: bad}).fake(c)))
		case k == 7:
			list = append(list, notPossible(bad, n)[c.below(12)])
		default:
			list = append(list, hearEvent(c.below(1+len(list)/2)-1, to))
		}
	}
	return list
}

// TestP22ExampleOfTheDocument is the example of the chapter on sessions, as events: what is possible, and how many messages there are after it.
func TestP22ExampleOfTheDocument(t *testing.T) {
	steps := []struct {
		e    impl.Event
		done bool
		said int
	}{
		{hearEvent(99, 0), false, 0}, {hearEvent(0, 3), false, 0},
		{askEvent(joinOf(1)), true, 1}, {askEvent(joinOf(1)), false, 1},
		{hearEvent(0, 1), true, 1}, {hearEvent(0, 0), true, 2},
		{hearEvent(1, 1), true, 3}, {hearEvent(1, 2), true, 4},
		{hearEvent(2, 0), true, 4}, {hearEvent(3, 0), true, 5}, {hearEvent(3, 1), true, 6}, {hearEvent(2, 2), true, 7},
		{hearEvent(4, 1), true, 7}, {hearEvent(6, 1), true, 7},
		{fakeEvent(about(4, 0, claim(2, 0, impl.Req{}))), true, 8}, {turnEvent(1), true, 9},
	}
	w := impl.WorldNew(3)
	var list []impl.Event
	for i, x := range steps {
		next, done := do(t, w, x.e)
		if done != x.done || len(next.Said) != x.said {
			t.Fatalf("event %d: %v, and %d messages", i, done, len(next.Said))
		}
		w, list = next, append(list, x.e)
	}
	mustBeWorld(t, "the example", played(t, 3, list), w)
	mustDo(t, "replica 1", w.Reps[1], claim(1, 0, joinOf(1)))
	mustDo(t, "replica 0", w.Reps[0])
	if w.Reps[1].View != 1 || w.Reps[1].Live || !w.Reps[0].Live {
		t.Errorf("the replicas are %v", w.Reps)
	}
	mustAgree(t, "the example", w, true)
}

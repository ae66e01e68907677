package tests

import (
	"slices"
	"strconv"
	"testing"

	"loop.example/wapentake/impl"
)

func TestLimitsOfQueues(t *testing.T) {
	if impl.TimeMax != timeMax || impl.QueueMax != queueMax {
		t.Errorf("TimeMax is %d, QueueMax is %d", impl.TimeMax, impl.QueueMax)
	}
}

func mustBeQueue(t *testing.T, name string, q []impl.Timed, want bool) {
	t.Helper()
	if got := queueOk(t, q); got != want {
		t.Errorf("%s: QueueOk is %v of %v", name, got, q)
	}
}

func TestQueueOkFields(t *testing.T) {
	for _, at := range []int{0, 1, 998, timeMax} {
		for from := range clients + 1 {
			for _, num := range []int{0, 1, 29, numbers} {
				mustBeQueue(t, "within the limits", []impl.Timed{timed(at, from, num)}, true)
			}
		}
	}
	for _, x := range badEvents() {
		mustBeQueue(t, "beyond the limits", []impl.Timed{x}, false)
	}
}

func TestQueueOkLengths(t *testing.T) {
	mustBeQueue(t, "none", nil, true)
	mustBeQueue(t, "none", []impl.Timed{}, true)
	for n := range queueMax + 5 {
		mustBeQueue(t, "ascending", times(upTo(n, 7)...), n <= queueMax)
		mustBeQueue(t, "ascending rungs", rungs(upTo(n, 1)...), n <= queueMax)
	}
}

func TestQueueOkBadQueues(t *testing.T) {
	for _, b := range badQueues() {
		mustBeQueue(t, b.name, b.queue, false)
	}
}

// TestQueueOkEachOrder has every order of up to 6 events, most of which are no heap.
func TestQueueOkEachOrder(t *testing.T) {
	heaps := 0
	for n := range 7 {
		eachOrder(n, anyFits, func(places []int) {
			if queueOk(t, rungs(places...)) {
				heaps++
			}
		})
	}
	if heaps != 1+1+1+2+3+8+20 {
		t.Errorf("%d orders are queues", heaps)
	}
}

// TestQueueOkPair has each field decide alone, and decide against the fields behind it.
func TestQueueOkPair(t *testing.T) {
	low := timed(5, 2, 7)
	for _, high := range []impl.Timed{timed(6, 2, 7), timed(5, 3, 7), timed(5, 2, 8), timed(6, 0, 0), timed(5, 3, 0), timed(6, 2, 0), timed(6, 0, 7)} {
		for _, q := range [][]impl.Timed{{low, high}, {timed(0, 0, 0), low, timed(999, 4, 30), high}, {low, timed(999, 4, 30), high}} {
			mustBeQueue(t, "parent first", q, true)
		}
		for _, q := range [][]impl.Timed{{high, low}, {timed(0, 0, 0), high, timed(999, 4, 30), low}, {high, timed(999, 4, 30), low}} {
			mustBeQueue(t, "child first", q, false)
		}
	}
}

func mustAddEvent(t *testing.T, q []impl.Timed, x impl.Timed, want []impl.Timed) {
	t.Helper()
	if got, ok := queueAdd(t, q, x); !ok || !slices.Equal(got, want) {
		t.Errorf("QueueAdd %v to %v is %v %v, want %v", x, q, got, ok, want)
	}
}

func mustNotAddEvent(t *testing.T, name string, q []impl.Timed, x impl.Timed, want []impl.Timed) {
	t.Helper()
	if got, ok := queueAdd(t, q, x); ok || !slices.Equal(got, want) {
		t.Errorf("%s: QueueAdd %v to %v is %v %v, want %v", name, x, q, got, ok, want)
	}
}

func TestP57Examples(t *testing.T) {
	for _, x := range []struct {
		before []int
		add    int
		after  []int
	}{
		{nil, 0, []int{0}},
		{nil, 999, []int{999}},
		{[]int{5}, 4, []int{4, 5}},
		{[]int{5}, 6, []int{5, 6}},
		{[]int{1, 5}, 0, []int{0, 5, 1}},
		{[]int{1, 5}, 3, []int{1, 5, 3}},
		{[]int{1, 3, 2}, 0, []int{0, 1, 2, 3}},
		{[]int{1, 5, 2}, 4, []int{1, 4, 2, 5}},
		{[]int{1, 5, 2}, 6, []int{1, 5, 2, 6}},
		{[]int{1, 7, 2, 9}, 4, []int{1, 4, 2, 9, 7}},
		{[]int{1, 7, 5, 9, 8}, 4, []int{1, 7, 4, 9, 8, 5}},
		{[]int{1, 2, 8, 3, 4, 9}, 7, []int{1, 2, 7, 3, 4, 9, 8}},
		{[]int{10, 20, 30, 40, 50, 60, 70}, 15, []int{10, 15, 30, 20, 50, 60, 70, 40}},
		{[]int{10, 20, 30, 40, 50, 60, 70}, 5, []int{5, 10, 30, 20, 50, 60, 70, 40}},
	} {
		mustAddEvent(t, times(x.before...), timed(x.add, 0, 0), times(x.after...))
	}
}

// TestP57EachPlace adds to each small queue an event that is first, between any two, and last.
func TestP57EachPlace(t *testing.T) {
	for _, q := range smallQueues() {
		for i := range len(q) + 1 {
			if _, ok := queueAdd(t, q, rung(2*i)); !ok {
				t.Fatalf("QueueAdd %v to %v fails", rung(2*i), q)
			}
		}
		for _, x := range q {
			mustNotAddEvent(t, "there", q, x, q)
		}
	}
}

func TestP57FieldsAlone(t *testing.T) {
	q := []impl.Timed{timed(5, 2, 7)}
	for _, x := range []impl.Timed{timed(6, 2, 7), timed(5, 3, 7), timed(5, 2, 8), timed(6, 0, 0), timed(5, 3, 0), timed(999, 0, 0)} {
		mustAddEvent(t, q, x, []impl.Timed{q[0], x})
	}
	for _, x := range []impl.Timed{timed(4, 2, 7), timed(5, 1, 7), timed(5, 2, 6), timed(4, 4, 30), timed(5, 1, 30), timed(0, 4, 30)} {
		mustAddEvent(t, q, x, []impl.Timed{x, q[0]})
	}
}

// TestP57AnyQueue adds to queues of each length.
func TestP57AnyQueue(t *testing.T) {
	for _, q := range anyQueues(t) {
		for i := range 2*len(q) + 4 {
			got, ok := queueAdd(t, q, rung(i))
			if there := slices.Contains(q, rung(i)); ok == (there || len(q) == queueMax) {
				t.Fatalf("QueueAdd %v to %v is %v %v", rung(i), q, got, ok)
			}
		}
	}
}

// TestP57Full goes up to the last event that has room, with events that are each the first and each the last.
func TestP57Full(t *testing.T) {
	var up, down []impl.Timed
	for i := range queueMax {
		x := rung(i)
		mustAddEvent(t, up, x, append(slices.Clone(up), x))
		up = append(up, x)
		down, _ = queueAdd(t, down, rung(queueMax-i))
		if len(down) != i+1 || down[0] != rung(queueMax-i) {
			t.Fatalf("%v is not the first of %v", rung(queueMax-i), down)
		}
	}
	for _, q := range [][]impl.Timed{up, down} {
		for _, x := range append(badEvents(), rung(queueMax+1), timed(0, 0, 0), timed(999, 4, 30), q[0], q[19]) {
			mustNotAddEvent(t, "full", q, x, q)
		}
	}
}

func TestP57BadEvents(t *testing.T) {
	for _, n := range []int{0, 1, 2, 3, 19, queueMax} {
		q := times(upTo(n, 10)...)
		for _, x := range badEvents() {
			mustNotAddEvent(t, "invalid", q, x, q)
		}
	}
}

func TestP57BadQueues(t *testing.T) {
	for _, b := range badQueues() {
		for _, x := range []impl.Timed{timed(55, 1, 1), timed(0, 0, 1), timed(999, 0, 0), b.queue[0], b.queue[len(b.queue)-1], timed(-1, 0, 0), {}} {
			mustNotAddEvent(t, b.name, b.queue, x, nil)
		}
	}
}

// TestP57Limits adds events whose fields are at their limits, and one beyond.
func TestP57Limits(t *testing.T) {
	q := times(400)
	for _, at := range []int{-1, 0, timeMax, timeMax + 1} {
		for _, from := range []int{-1, 0, clients, clients + 1} {
			for _, num := range []int{-1, 0, numbers, numbers + 1} {
				good := at >= 0 && at <= timeMax && from >= 0 && from <= clients && num >= 0 && num <= numbers
				if got, ok := queueAdd(t, q, timed(at, from, num)); ok != good {
					t.Errorf("QueueAdd %s is %v", strconv.Itoa(at)+" "+strconv.Itoa(from)+" "+strconv.Itoa(num), got)
				}
			}
		}
	}
}

package tests

import (
	"math"
	"slices"
	"strconv"
	"testing"

	"loop.example/wapentake/impl"
)

// The limits of timed events as the document gives them.
const (
	timeMax  = 999
	queueMax = 20
)

func timed(at, from, num int) impl.Timed {
	return impl.Timed{At: at, From: from, Num: num}
}

// times is events with these times.
func times(list ...int) []impl.Timed {
	var events []impl.Timed
	for _, at := range list {
		events = append(events, timed(at, 0, 0))
	}
	return events
}

// rung is one of 300 ascending events: the next one has a later Num alone, or a later From with an earlier Num, or a later At with an earlier From and Num.
func rung(i int) impl.Timed {
	return timed(i/15*50+49, i/3%5, i%3*15)
}

func rungs(places ...int) []impl.Timed {
	var events []impl.Timed
	for _, i := range places {
		events = append(events, rung(i))
	}
	return events
}

// upTo is 0, step, 2*step and so on, n numbers.
func upTo(n, step int) []int {
	var list []int
	for i := range n {
		list = append(list, i*step)
	}
	return list
}

func precedes(a, b impl.Timed) bool {
	return modelRank(a) < modelRank(b)
}

func ascends(list []impl.Timed) bool {
	for i := 1; i < len(list); i++ {
		if !precedes(list[i-1], list[i]) {
			return false
		}
	}
	return true
}

// sameEvents says whether two lists have the same events, in whatever order.
func sameEvents(a, b []impl.Timed) bool {
	return slices.Equal(slices.SortedFunc(slices.Values(a), byRank), slices.SortedFunc(slices.Values(b), byRank))
}

func roomyTimed(list []impl.Timed) []impl.Timed {
	return roomy(list, timed(-7, -7, -7))
}

// ownTimed is a copy of a result, over which it then writes.
func ownTimed(list []impl.Timed) []impl.Timed {
	kept := slices.Clone(list)
	overwrite(list, timed(-9, -9, -9))
	return kept
}

// queueOk is QueueOk, held against the model; so are the next ones with the functions of their names, and against the promises 57 to 60.
func queueOk(t *testing.T, q []impl.Timed) bool {
	t.Helper()
	got := false
	untouched(t, roomyTimed(q), func(q []impl.Timed) { got = impl.QueueOk(q) })
	if want := modelQueueOk(q); got != want {
		t.Fatalf("QueueOk is %v of %v", got, q)
	}
	return got
}

func queueAdd(t *testing.T, q []impl.Timed, x impl.Timed) ([]impl.Timed, bool) {
	t.Helper()
	var got []impl.Timed
	ok := false
	untouched(t, roomyTimed(q), func(q []impl.Timed) {
		got, ok = impl.QueueAdd(q, x)
		got = ownTimed(got)
	})
	if want, wantOk := modelQueueAdd(q, x); ok != wantOk || !slices.Equal(got, want) {
		t.Fatalf("QueueAdd %v\nto   %v\nis   %v %v\nwant %v %v", x, q, got, ok, want, wantOk)
	}
	if ok {
		checkP57(t, q, got, x)
	}
	return got, ok
}

func checkP57(t *testing.T, q, got []impl.Timed, x impl.Timed) {
	t.Helper()
	if !impl.QueueOk(got) || slices.Contains(q, x) || !sameEvents(got, append(slices.Clone(q), x)) {
		t.Fatalf("%v added to %v: %v", x, q, got)
	}
	if again, ok := impl.QueueAdd(got, x); ok || !slices.Equal(again, got) {
		t.Fatalf("%v added again to %v: %v %v", x, got, again, ok)
	}
}

func queueNext(t *testing.T, q []impl.Timed) ([]impl.Timed, impl.Timed, bool) {
	t.Helper()
	var got []impl.Timed
	var first impl.Timed
	ok := false
	untouched(t, roomyTimed(q), func(q []impl.Timed) {
		got, first, ok = impl.QueueNext(q)
		got = ownTimed(got)
	})
	if want, wantFirst, wantOk := modelQueueNext(q); ok != wantOk || first != wantFirst || !slices.Equal(got, want) {
		t.Fatalf("QueueNext of %v\nis   %v %v %v\nwant %v %v %v", q, got, first, ok, want, wantFirst, wantOk)
	}
	if ok {
		checkP58(t, q, got, first)
	}
	return got, first, ok
}

func checkP58(t *testing.T, q, rest []impl.Timed, first impl.Timed) {
	t.Helper()
	if !impl.QueueOk(rest) || !sameEvents(q, append(slices.Clone(rest), first)) {
		t.Fatalf("%v removed from %v: %v", first, q, rest)
	}
	for _, x := range rest {
		if !precedes(first, x) {
			t.Fatalf("%v is removed from %v before %v", first, q, x)
		}
	}
	if again, ok := impl.QueueAdd(rest, first); !ok || again[0] != first {
		t.Fatalf("%v added again to %v: %v %v", first, rest, again, ok)
	}
}

func queueTill(t *testing.T, q []impl.Timed, at int) ([]impl.Timed, []impl.Timed) {
	t.Helper()
	var rest, removed []impl.Timed
	untouched(t, roomyTimed(q), func(q []impl.Timed) {
		rest, removed = impl.QueueTill(q, at)
		all := rest[:cap(rest)]
		kept := slices.Clone(all)
		removed = ownTimed(removed)
		if !slices.Equal(all, kept) {
			t.Fatalf("both results of QueueTill share memory: %v, before %v", all, kept)
		}
		rest = ownTimed(rest)
	})
	if wantRest, want := modelQueueTill(q, at); !slices.Equal(rest, wantRest) || !slices.Equal(removed, want) {
		t.Fatalf("QueueTill %d of %v\nis   %v %v\nwant %v %v", at, q, rest, removed, wantRest, want)
	}
	if impl.QueueOk(q) {
		checkP59(t, q, at, rest, removed)
	}
	return rest, removed
}

func checkP59(t *testing.T, q []impl.Timed, at int, rest, removed []impl.Timed) {
	t.Helper()
	late := slices.ContainsFunc(removed, func(x impl.Timed) bool { return x.At > at })
	early := slices.ContainsFunc(rest, func(x impl.Timed) bool { return x.At <= at })
	if !ascends(removed) || late || !impl.QueueOk(rest) || early || !sameEvents(q, slices.Concat(rest, removed)) {
		t.Fatalf("QueueTill %d of %v is %v %v", at, q, rest, removed)
	}
}

func queueSort(t *testing.T, list []impl.Timed) []impl.Timed {
	t.Helper()
	var got []impl.Timed
	untouched(t, roomyTimed(list), func(list []impl.Timed) { got = ownTimed(impl.QueueSort(list)) })
	if want := modelQueueSort(list); !slices.Equal(got, want) {
		t.Fatalf("QueueSort of %v\nis   %v\nwant %v", list, got, want)
	}
	if len(got) > 0 {
		checkP60(t, list, got)
	}
	return got
}

func checkP60(t *testing.T, list, got []impl.Timed) {
	t.Helper()
	if !ascends(got) || !sameEvents(list, got) {
		t.Fatalf("%v is sorted as %v", list, got)
	}
	back := slices.Clone(list)
	slices.Reverse(back)
	if other := impl.QueueSort(back); !slices.Equal(other, got) {
		t.Fatalf("%v is sorted as %v, and from its end as %v", list, got, other)
	}
	if again := impl.QueueSort(got); !slices.Equal(again, got) {
		t.Fatalf("%v is sorted as %v", got, again)
	}
}

// eachOrder calls look with each order of n places in which every one fits behind the ones before it.
func eachOrder(n int, fits func(before []int, i int) bool, look func(places []int)) {
	var fill func(places []int)
	fill = func(places []int) {
		if len(places) == n {
			look(places)
			return
		}
		for i := range n {
			if !slices.Contains(places, i) && fits(places, i) {
				fill(append(slices.Clone(places), i))
			}
		}
	}
	fill(nil)
}

func anyFits([]int, int) bool {
	return true
}

func fitsHeap(before []int, i int) bool {
	return len(before) == 0 || before[(len(before)-1)/2] < i
}

// smallQueues is every queue of up to 8 events that are each second rung, beginning with rung 1.
func smallQueues() [][]impl.Timed {
	var list [][]impl.Timed
	for n := range 9 {
		eachOrder(n, fitsHeap, func(places []int) {
			var q []impl.Timed
			for _, i := range places {
				q = append(q, rung(2*i+1))
			}
			list = append(list, q)
		})
	}
	return list
}

// anyQueue is a queue of n of the first 2*n+3 rungs that chance puts together.
func anyQueue(t *testing.T, c *chance, n int) []impl.Timed {
	t.Helper()
	places := upTo(2*n+3, 1)
	shuffle(c, places)
	var q []impl.Timed
	for _, x := range rungs(places[:n]...) {
		q, _ = queueAdd(t, q, x)
	}
	return q
}

// anyQueues is some queues of each length.
func anyQueues(t *testing.T) [][]impl.Timed {
	t.Helper()
	c := &chance{state: 13}
	var list [][]impl.Timed
	for n := range queueMax + 1 {
		for range 12 {
			list = append(list, anyQueue(t, c, n))
		}
	}
	return list
}

// badEvents is events of which one field is in no range.
func badEvents() []impl.Timed {
	list := []impl.Timed{timed(timeMax+1, 2, 15), timed(timeMax+1, 0, 0), timed(49, clients+1, 0), timed(49, 2, numbers+1), timed(1<<32, 1, 1), timed(1, 1<<32, 1), timed(1, 1, 1<<32)}
	for _, n := range []int{-1, math.MinInt, math.MaxInt} {
		list = append(list, timed(n, 0, 0), timed(0, n, 0), timed(0, 0, n), timed(n, n, n))
	}
	return list
}

type namedQueue struct {
	name  string
	queue []impl.Timed
}

// badQueues is lists that each break one rule of QueueOk.
func badQueues() []namedQueue {
	list := []namedQueue{
		{"21 events", times(upTo(queueMax+1, 3)...)}, {"1000 events", times(upTo(timeMax+1, 1)...)}, {"21 times one event", slices.Repeat(times(5), queueMax+1)},
	}
	for _, n := range []int{1, 2, 3, 4, 10, queueMax} {
		good := times(upTo(n+1, 10)[1:]...)
		for at := range n {
			add := func(name string, x impl.Timed) {
				bent := slices.Clone(good)
				bent[at] = x
				list = append(list, namedQueue{strconv.Itoa(n) + " events, " + name + " at " + strconv.Itoa(at), bent})
			}
			for i, x := range badEvents() {
				add("bad event "+strconv.Itoa(i), x)
			}
			if at > 0 {
				parent := good[(at-1)/2]
				add("its parent again", parent)
				add("one that precedes its parent", timed(parent.At-1, 4, 30))
			}
			for other := range at {
				add("event "+strconv.Itoa(other), good[other])
			}
		}
	}
	return append(list, twiceApart()...)
}

// twiceApart is queues with an event twice where neither is the other one's parent.
func twiceApart() []namedQueue {
	return []namedQueue{
		{"twice side by side", times(1, 2, 2)}, {"twice as a child of each", times(1, 2, 3, 9, 5, 9)}, {"twice at both ends of a level", times(1, 2, 3, 4, 5, 6, 4)},
		{"twice on two levels", times(1, 2, 8, 7, 8)}, {"twice at last", times(append(upTo(19, 1), 18)...)}, {"all of them", times(4, 4, 4, 4)},
	}
}

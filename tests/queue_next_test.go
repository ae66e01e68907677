package tests

import (
	"math"
	"slices"
	"testing"

	"loop.example/wapentake/impl"
)

func TestP58Examples(t *testing.T) {
	for _, x := range []struct {
		name          string
		before, after []int
	}{
		{"the only one", []int{7}, nil},
		{"no child is left", []int{1, 2}, []int{2}},
		{"one child, which stays below", []int{1, 3, 2}, []int{2, 3}},
		{"one child, which goes up", []int{1, 2, 3}, []int{2, 3}},
		{"the first child precedes the second", []int{1, 2, 3, 4}, []int{2, 4, 3}},
		{"the second child precedes the first", []int{1, 3, 2, 4}, []int{2, 3, 4}},
		{"both children precede it, the second first", []int{1, 8, 2, 9, 10, 3}, []int{2, 8, 3, 9, 10}},
		{"only the second child precedes it", []int{1, 5, 2, 6, 7, 4}, []int{2, 5, 4, 6, 7}},
		{"only the first child precedes it", []int{1, 2, 5, 3, 4}, []int{2, 3, 5, 4}},
		{"two levels down", []int{1, 2, 3, 4, 5}, []int{2, 4, 3, 5}},
		{"two levels down, by the second children", []int{1, 3, 2, 9, 8, 7, 6, 10}, []int{2, 3, 6, 9, 8, 7, 10}},
		{"a last child that has no other", []int{1, 2, 9, 3, 8, 10, 11, 4, 12}, []int{2, 3, 9, 4, 8, 10, 11, 12}},
		{"halfway down", []int{1, 2, 6, 10, 11, 7, 8, 12, 13, 14, 15, 9}, []int{2, 9, 6, 10, 11, 7, 8, 12, 13, 14, 15}},
		{"down to the last level", upTo(queueMax, 1), []int{1, 3, 2, 7, 4, 5, 6, 15, 8, 9, 10, 11, 12, 13, 14, 19, 16, 17, 18}},
	} {
		rest, first, ok := queueNext(t, times(x.before...))
		if !ok || first != times(x.before...)[0] || !slices.Equal(rest, times(x.after...)) {
			t.Errorf("%s: QueueNext of %v is %v %v %v, want %v", x.name, x.before, rest, first, ok, x.after)
		}
	}
}

// TestP58FieldsAlone has two children that differ in one field, and an event between them or behind both.
func TestP58FieldsAlone(t *testing.T) {
	first, last := timed(0, 0, 0), timed(999, 4, 30)
	for _, x := range [][2]impl.Timed{
		{timed(5, 2, 7), timed(6, 2, 7)}, {timed(5, 2, 7), timed(5, 3, 7)}, {timed(5, 2, 7), timed(5, 2, 8)},
		{timed(5, 4, 30), timed(6, 0, 0)}, {timed(5, 2, 30), timed(5, 3, 0)}, {timed(5, 2, 30), timed(6, 2, 0)},
	} {
		low, high := x[0], x[1]
		for _, q := range [][2][]impl.Timed{{{first, low, high, last}, {low, last, high}}, {{first, high, low, last}, {low, high, last}}, {{first, high, low}, {low, high}}, {{first, low, high}, {low, high}}} {
			if rest, _, ok := queueNext(t, q[0]); !ok || !slices.Equal(rest, q[1]) {
				t.Errorf("QueueNext of %v is %v %v, want %v", q[0], rest, ok, q[1])
			}
		}
	}
}

func TestP58EachSmallQueue(t *testing.T) {
	for _, q := range smallQueues() {
		if _, _, ok := queueNext(t, q); ok != (len(q) > 0) {
			t.Fatalf("QueueNext of %v is %v", q, ok)
		}
	}
}

// TestP58UntilEmpty removes all events one by one.
func TestP58UntilEmpty(t *testing.T) {
	for _, q := range anyQueues(t) {
		var removed []impl.Timed
		for rest := q; len(rest) > 0; {
			next, first, ok := queueNext(t, rest)
			if !ok || len(next) != len(rest)-1 {
				t.Fatalf("QueueNext of %v is %v %v %v", rest, next, first, ok)
			}
			rest, removed = next, append(removed, first)
		}
		if !ascends(removed) || !sameEvents(q, removed) {
			t.Fatalf("%v is removed from %v", removed, q)
		}
	}
}

func TestP58NoQueue(t *testing.T) {
	list := append(badQueues(), namedQueue{"none", nil}, namedQueue{"empty", []impl.Timed{}})
	for _, b := range list {
		if rest, first, ok := queueNext(t, b.queue); ok || len(rest) > 0 || first != (impl.Timed{}) {
			t.Errorf("%s: QueueNext is %v %v %v", b.name, rest, first, ok)
		}
	}
}

func TestP59Examples(t *testing.T) {
	q := times(3, 8, 5, 9, 12, 7)
	for _, x := range []struct {
		at            int
		rest, removed []int
	}{
		{math.MinInt, []int{3, 8, 5, 9, 12, 7}, nil},
		{-1, []int{3, 8, 5, 9, 12, 7}, nil},
		{2, []int{3, 8, 5, 9, 12, 7}, nil},
		{3, []int{5, 8, 7, 9, 12}, []int{3}},
		{4, []int{5, 8, 7, 9, 12}, []int{3}},
		{5, []int{7, 8, 12, 9}, []int{3, 5}},
		{7, []int{8, 9, 12}, []int{3, 5, 7}},
		{8, []int{9, 12}, []int{3, 5, 7, 8}},
		{11, []int{12}, []int{3, 5, 7, 8, 9}},
		{12, nil, []int{3, 5, 7, 8, 9, 12}},
		{timeMax, nil, []int{3, 5, 7, 8, 9, 12}},
		{math.MaxInt, nil, []int{3, 5, 7, 8, 9, 12}},
	} {
		rest, removed := queueTill(t, q, x.at)
		if !slices.Equal(rest, times(x.rest...)) || !slices.Equal(removed, times(x.removed...)) {
			t.Errorf("QueueTill %d is %v %v, want %v %v", x.at, rest, removed, x.rest, x.removed)
		}
	}
}

// TestP59SameTime removes all events of a time, whatever their other fields are.
func TestP59SameTime(t *testing.T) {
	q := []impl.Timed{timed(5, 0, 0), timed(5, 0, 30), timed(5, 4, 0), timed(5, 4, 30), timed(6, 0, 0)}
	if rest, removed := queueTill(t, q, 5); !slices.Equal(removed, q[:4]) || !slices.Equal(rest, q[4:]) {
		t.Errorf("QueueTill 5 is %v %v", rest, removed)
	}
	if rest, removed := queueTill(t, q, 4); len(removed) > 0 || !slices.Equal(rest, q) {
		t.Errorf("QueueTill 4 is %v %v", rest, removed)
	}
}

func TestP59TimesAtTheLimits(t *testing.T) {
	q := []impl.Timed{timed(0, 0, 0), timed(0, 4, 30), timed(998, 1, 1), timed(timeMax, 0, 0), timed(timeMax, 4, 30)}
	for at, many := range map[int]int{math.MinInt: 0, -1: 0, 0: 2, 1: 2, 997: 2, 998: 3, timeMax: 5, timeMax + 1: 5, math.MaxInt: 5} {
		if rest, removed := queueTill(t, q, at); len(removed) != many || len(rest) != 5-many {
			t.Errorf("QueueTill %d is %v %v", at, rest, removed)
		}
	}
}

func tillTimes(q []impl.Timed) []int {
	list := []int{math.MinInt, -1, 0, timeMax, math.MaxInt}
	for _, x := range q {
		list = append(list, x.At-1, x.At, x.At+1)
	}
	slices.Sort(list)
	return slices.Compact(list)
}

func TestP59EachQueue(t *testing.T) {
	for _, q := range slices.Concat(smallQueues(), anyQueues(t)) {
		for _, at := range tillTimes(q) {
			queueTill(t, q, at)
		}
	}
}

// TestP59Twice removes the same events in one go and in two.
func TestP59Twice(t *testing.T) {
	for _, q := range anyQueues(t) {
		for _, at := range tillTimes(q) {
			half, first := queueTill(t, q, at-60)
			rest, second := queueTill(t, half, at)
			wholeRest, whole := queueTill(t, q, at)
			if at > math.MinInt+60 && (!slices.Equal(rest, wholeRest) || !slices.Equal(slices.Concat(first, second), whole)) {
				t.Fatalf("QueueTill %d of %v is %v %v, and in two steps %v %v %v", at, q, wholeRest, whole, rest, first, second)
			}
		}
	}
}

func TestP59NoEvents(t *testing.T) {
	for _, at := range []int{math.MinInt, -1, 0, timeMax, math.MaxInt} {
		for _, q := range [][]impl.Timed{nil, {}} {
			if rest, removed := queueTill(t, q, at); len(rest) > 0 || len(removed) > 0 {
				t.Errorf("QueueTill %d is %v %v", at, rest, removed)
			}
		}
	}
}

func TestP59BadQueues(t *testing.T) {
	for _, b := range badQueues() {
		for _, at := range []int{math.MinInt, -1, 0, 55, timeMax, math.MaxInt} {
			if rest, removed := queueTill(t, b.queue, at); len(rest) > 0 || len(removed) > 0 {
				t.Errorf("%s: QueueTill %d is %v %v", b.name, at, rest, removed)
			}
		}
	}
}

package tests

import (
	"slices"

	"loop.example/wapentake/impl"
)

// The rules of the chapter on timed events told a second time, without a swap: the model looks at the whole path that an event goes.

// modelRank is the place of an event among all valid ones, or -1.
func modelRank(x impl.Timed) int {
	if x.At < 0 || x.At > timeMax || x.From < 0 || x.From > clients || x.Num < 0 || x.Num > numbers {
		return -1
	}
	return (x.At*(clients+1)+x.From)*(numbers+1) + x.Num
}

func byRank(a, b impl.Timed) int {
	return modelRank(a) - modelRank(b)
}

func modelQueueOk(q []impl.Timed) bool {
	ranks := map[int]bool{}
	for i, x := range q {
		rank := modelRank(x)
		if i >= queueMax || rank < 0 || ranks[rank] {
			return false
		}
		ranks[rank] = true
	}
	for i := range q {
		for _, child := range []int{2*i + 1, 2*i + 2} {
			if child < len(q) && modelRank(q[child]) < modelRank(q[i]) {
				return false
			}
		}
	}
	return true
}

// modelQueueAdd sorts the events on the path from the root to the new place: all but the new one are sorted before.
func modelQueueAdd(q []impl.Timed, x impl.Timed) ([]impl.Timed, bool) {
	if !modelQueueOk(q) {
		return nil, false
	}
	if modelRank(x) < 0 || slices.Contains(q, x) || len(q) >= queueMax {
		return q, false
	}
	got := append(slices.Clone(q), x)
	path := []int{len(q)}
	for path[0] > 0 {
		path = append([]int{(path[0] - 1) / 2}, path...)
	}
	var events []impl.Timed
	for _, at := range path {
		events = append(events, got[at])
	}
	slices.SortFunc(events, byRank)
	for i, at := range path {
		got[at] = events[i]
	}
	return got, true
}

// modelQueueNext takes the path of the smaller children, and shifts those up that precede the last event.
func modelQueueNext(q []impl.Timed) ([]impl.Timed, impl.Timed, bool) {
	if !modelQueueOk(q) || len(q) == 0 {
		return nil, impl.Timed{}, false
	}
	last := q[len(q)-1]
	got := slices.Clone(q[:len(q)-1])
	if len(got) == 0 {
		return nil, last, true
	}
	hole := 0
	for 2*hole+1 < len(got) {
		children := got[2*hole+1 : min(2*hole+3, len(got))]
		smaller := slices.MinFunc(children, byRank)
		if modelRank(smaller) > modelRank(last) {
			break
		}
		got[hole] = smaller
		hole = slices.Index(q[:len(got)], smaller)
	}
	got[hole] = last
	return got, q[0], true
}

func modelQueueTill(q []impl.Timed, at int) ([]impl.Timed, []impl.Timed) {
	if !modelQueueOk(q) {
		return nil, nil
	}
	if len(q) == 0 || q[0].At > at {
		return q, nil
	}
	rest, first, _ := modelQueueNext(q)
	rest, removed := modelQueueTill(rest, at)
	return rest, append([]impl.Timed{first}, removed...)
}

func modelQueueSort(list []impl.Timed) []impl.Timed {
	sorted := slices.SortedFunc(slices.Values(list), byRank)
	if slices.ContainsFunc(list, func(x impl.Timed) bool { return modelRank(x) < 0 }) || len(list) > queueMax || !ascends(sorted) {
		return nil
	}
	return sorted
}

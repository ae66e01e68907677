package tests

import (
	"slices"
	"testing"

	"loop.example/wapentake/impl"
)

func mustSort(t *testing.T, list, want []impl.Timed) {
	t.Helper()
	if got := queueSort(t, list); !slices.Equal(got, want) {
		t.Errorf("QueueSort of %v is %v, want %v", list, got, want)
	}
}

func mustNotSort(t *testing.T, name string, list []impl.Timed) {
	t.Helper()
	if got := queueSort(t, list); len(got) > 0 {
		t.Errorf("%s: QueueSort of %v is %v", name, list, got)
	}
}

func TestP60Examples(t *testing.T) {
	mustSort(t, nil, nil)
	mustSort(t, []impl.Timed{}, nil)
	mustSort(t, times(999), times(999))
	mustSort(t, times(0), times(0))
	mustSort(t, times(9, 0, 999, 4), times(0, 4, 9, 999))
	mustSort(t, []impl.Timed{timed(2, 0, 0), timed(1, 4, 0), timed(1, 3, 30)}, []impl.Timed{timed(1, 3, 30), timed(1, 4, 0), timed(2, 0, 0)})
	mustSort(t, []impl.Timed{timed(1, 0, 9), timed(1, 0, 10), timed(1, 0, 1)}, []impl.Timed{timed(1, 0, 1), timed(1, 0, 9), timed(1, 0, 10)})
}

func TestP60Lengths(t *testing.T) {
	for n := range queueMax + 4 {
		up := rungs(upTo(n, 1)...)
		down := slices.Clone(up)
		slices.Reverse(down)
		if n <= queueMax {
			mustSort(t, up, up)
			mustSort(t, down, up)
		} else {
			mustNotSort(t, "too many, ascending", up)
			mustNotSort(t, "too many, descending", down)
		}
	}
	mustNotSort(t, "1000", times(upTo(timeMax+1, 1)...))
}

// TestP60EachOrder sorts every order of 6 events.
func TestP60EachOrder(t *testing.T) {
	want := rungs(upTo(6, 1)...)
	eachOrder(6, anyFits, func(places []int) { mustSort(t, rungs(places...), want) })
}

// TestP60AnyOrder sorts many orders of many events.
func TestP60AnyOrder(t *testing.T) {
	c := &chance{state: 60}
	for n := range queueMax + 1 {
		want := rungs(upTo(n, 3)...)
		for range 30 {
			list := slices.Clone(want)
			shuffle(c, list)
			mustSort(t, list, want)
		}
	}
}

func TestP60Twice(t *testing.T) {
	for _, n := range []int{1, 2, 3, 7, 19} {
		list := rungs(upTo(n, 1)...)
		for _, x := range list {
			for at := range n + 1 {
				mustNotSort(t, "twice", slices.Insert(slices.Clone(list), at, x))
			}
		}
	}
	mustNotSort(t, "20 and one of them twice", append(rungs(upTo(queueMax, 1)...), rung(3)))
}

func TestP60BadEvents(t *testing.T) {
	for _, n := range []int{0, 1, 2, 6, 19} {
		for _, x := range badEvents() {
			for at := range n + 1 {
				mustNotSort(t, "invalid", slices.Insert(rungs(upTo(n, 1)...), at, x))
			}
		}
	}
}

// TestP60NoHeap sorts lists that are no queues because of their order alone.
func TestP60NoHeap(t *testing.T) {
	sorted := 0
	for _, b := range badQueues() {
		if got := queueSort(t, b.queue); len(got) > 0 {
			sorted++
		}
	}
	if sorted != 1+2+3+9+19 {
		t.Errorf("%d lists are sorted", sorted)
	}
}

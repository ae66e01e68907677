package tests

import (
	"slices"
	"testing"

	"loop.example/wapentake/impl"
)

func mustMeet(t *testing.T, name string, a, b []impl.Entry, want int) {
	t.Helper()
	if got := meet(t, a, b); got != want {
		t.Fatalf("%s: LedgerMeet is %d, want %d, of\n%v\n%v", name, got, want, a, b)
	}
}

func TestP35Empty(t *testing.T) {
	rows := ledgerWith(5)
	for _, none := range [][]impl.Entry{nil, {}} {
		mustMeet(t, "two empty", none, nil, 0)
		mustMeet(t, "one empty", none, rows, 0)
		mustMeet(t, "one empty, one wrong", none, make([]impl.Entry, 3), 0)
	}
}

func TestP35OneContinuesTheOther(t *testing.T) {
	rows := ledgerWith(folds)
	for short := range folds + 1 {
		for long := short; long <= folds; long++ {
			mustMeet(t, "continued", rows[:short], rows[:long], short)
		}
	}
}

func TestP35Itself(t *testing.T) {
	for _, rows := range someLedgers() {
		mustMeet(t, "itself", rows, rows, len(rows))
		for _, e := range wrongEntries(lastSum(rows), len(rows)+1) {
			wrong := append(slices.Clone(rows), e)
			mustMeet(t, "itself, with a wrong one", wrong, wrong, len(rows))
		}
	}
}

// otherReq is another request than r, also valid.
func otherReq(r impl.Req) impl.Req {
	if r == joinOf(2) {
		return joinOf(3)
	}
	return joinOf(2)
}

// TestP35RequestDiffers has two ledgers whose requests differ at one position only: all Sums behind it differ too.
func TestP35RequestDiffers(t *testing.T) {
	list := foldLists()[folds]
	rows := modelChain(list)
	for at := range list {
		other := slices.Clone(list)
		other[at] = otherReq(list[at])
		mustMeet(t, "another request", rows, modelChain(other), at)
		mustMeet(t, "another request at last", rows[:at+1], modelChain(other[:at+1]), at)
		other[at] = impl.Req{}
		if list[at] != other[at] {
			mustMeet(t, "the null request", rows, modelChain(other), at)
		}
	}
}

// TestP35OneFieldDiffers has entries that differ in one field, and nothing else: one of them is not correct.
func TestP35OneFieldDiffers(t *testing.T) {
	rows := ledgerWith(folds)
	for at, e := range rows {
		bent := slices.Clone(rows)
		bent[at].Req = otherReq(e.Req)
		mustMeet(t, "request", rows, bent, at)
		mustMeet(t, "request, both", bent, bent, at)
		bent[at].Req = impl.Req{Client: 5}
		mustMeet(t, "bad request, both", bent, bent, at)
		for _, sum := range sumsOff(e.Sum) {
			bent = slices.Clone(rows)
			bent[at].Sum = sum
			mustMeet(t, "Sum", rows, bent, at)
			mustMeet(t, "Sum, both", bent, bent, at)
		}
	}
}

// TestP35OneSumTwoRequests has two different requests whose correct entries have one Sum, so that all entries behind them are equal and correct.
func TestP35OneSumTwoRequests(t *testing.T) {
	behind := foldLists()[folds-2]
	one := ledgerOf(t, append(mustReqs(t, "3 20 move 1 0", "4 5 give 3 1"), behind...))
	two := ledgerOf(t, append(mustReqs(t, "3 20 move 1 0", "4 8 move -1 0"), behind...))
	if one[1].Sum != 200768771 || two[1].Sum != 200768771 || !slices.Equal(one[2:], two[2:]) {
		t.Fatalf("the Sums differ: %v, %v", one[1], two[1])
	}
	mustMeet(t, "one Sum", one, two, 1)
	mustMeet(t, "one Sum at last", one[:2], two[:2], 1)
	mustMeet(t, "one Sum, one list ends", one, two[:1], 1)
}

func TestP35EqualBehindAWrongOne(t *testing.T) {
	rows := ledgerWith(folds)
	for at := range rows {
		wrong := slices.Clone(rows)
		wrong[at].Sum ^= 1
		mustMeet(t, "the same wrong entry", wrong, slices.Clone(wrong), at)
		mustMeet(t, "one wrong entry", rows, wrong, at)
		for later := at + 1; later < len(rows); later++ {
			mustMeet(t, "wrong, and another end", wrong, wrong[:later], at)
			alsoWrong := slices.Clone(rows)
			alsoWrong[later].Sum ^= 1
			mustMeet(t, "both wrong, one of them later", wrong, alsoWrong, at)
		}
	}
	// Correct by themselves, were it not for the one before them.
	lost := append([]impl.Entry{{Req: joinOf(1), Sum: 7}}, modelEntry(7, 2, joinOf(2)))
	mustMeet(t, "behind a wrong first one", lost, slices.Clone(lost), 0)
}

func TestP35LongerThanFoldMax(t *testing.T) {
	rows := modelChain(slices.Concat(foldLists()[folds], foldLists()[folds]))
	for _, n := range []int{folds - 1, folds, folds + 1, 2 * folds} {
		for _, m := range []int{0, 1, folds - 1, folds, folds + 1, 2*folds - 1, 2 * folds} {
			mustMeet(t, "long", rows[:n], rows[:m], min(n, m, folds))
		}
	}
	for _, at := range []int{0, 1, folds - 1, folds, folds + 1} {
		bent := slices.Clone(rows)
		bent[at].Sum++
		mustMeet(t, "long and wrong", rows, bent, min(at, folds))
		mustMeet(t, "wrong and long", bent, bent, min(at, folds))
	}
}

func TestP35AnyTwo(t *testing.T) {
	c := &chance{state: 35}
	pool := append(mustReqs(t, "1 1 join 0 0", "none"), impl.Req{Client: 7})
	seen := map[int]int{}
	for range 4000 {
		lists := [2][]impl.Entry{}
		for i := range lists {
			before := 0
			for at := range c.below(6) {
				r := pool[c.below(12)/5]
				e := impl.Entry{Req: r}
				if modelOkOrNull(r) {
					e = modelEntry(before, at+1, r)
				}
				if c.below(9) == 0 {
					e.Sum++
				}
				lists[i] = append(lists[i], e)
				before = e.Sum
			}
		}
		seen[meet(t, lists[0], lists[1])]++
	}
	for n := range 5 {
		if seen[n] == 0 {
			t.Errorf("no two lists meet at %d: %v", n, seen)
		}
	}
}

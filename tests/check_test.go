package tests

import (
	"math"
	"slices"
	"testing"

	"loop.example/wapentake/impl"
)

func mustBeChecks(t *testing.T, name string, list []impl.Check, want bool) {
	t.Helper()
	if got := checksOk(t, list); got != want {
		t.Errorf("%s: CheckOk is %v of %v", name, got, list)
	}
}

func TestCheckOkFields(t *testing.T) {
	for from := range keepers {
		for seq := range lastSeq + 1 {
			for _, sum := range []int{0, 1, 1 << 31, sumMax - 1, sumMax} {
				mustBeChecks(t, "within the limits", []impl.Check{checksum(from, seq, sum)}, true)
			}
		}
	}
	for _, c := range badChecks() {
		mustBeChecks(t, "beyond the limits", []impl.Check{c}, false)
	}
}

func TestCheckOkLengths(t *testing.T) {
	mustBeChecks(t, "none", nil, true)
	mustBeChecks(t, "none", []impl.Check{}, true)
	for _, list := range manyChecks() {
		mustBeChecks(t, "any places", list, true)
	}
	mustBeChecks(t, "24", allChecks(sumMax), true)
}

func TestCheckOkBadLists(t *testing.T) {
	for _, b := range badCheckLists() {
		mustBeChecks(t, b.name, b.list, false)
	}
}

// TestCheckOkPairs has each two places, with the same sum and with another.
func TestCheckOkPairs(t *testing.T) {
	for i, a := range allChecks(0) {
		for j, b := range allChecks(0) {
			for _, sum := range []int{0, 1, sumMax} {
				b.Sum = sum
				mustBeChecks(t, "a pair", []impl.Check{a, b}, i != j)
			}
		}
	}
}

func mustCheckOf(t *testing.T, from int, list []impl.Req, seq, sum int) {
	t.Helper()
	if c, ok := checkOf(t, from, list, seq); !ok || c != checksum(from, seq, sum) {
		t.Errorf("CheckOf %d %d of %v is %v %v, want %d", from, seq, list, c, ok, sum)
	}
}

func mustNotCheckOf(t *testing.T, name string, from int, list []impl.Req, seq int) {
	t.Helper()
	if c, ok := checkOf(t, from, list, seq); ok || c != (impl.Check{}) {
		t.Errorf("%s: CheckOf %d %d of %v is %v %v", name, from, seq, list, c, ok)
	}
}

// The checksums of a new game, and of one with the figures of one and of two clients.
const (
	sumNew = 3053572744
	sumOne = 3476862936
	sumTwo = 2905680024
)

func TestP64Examples(t *testing.T) {
	list := mustReqs(t, "1 1 join 0 0", "none", "2 1 join 0 0")
	for from := range keepers {
		mustCheckOf(t, from, nil, 0, sumNew)
		mustCheckOf(t, from, []impl.Req{}, 0, sumNew)
		for seq, sum := range []int{sumNew, sumOne, sumOne, sumTwo} {
			mustCheckOf(t, from, list, seq, sum)
			mustCheckOf(t, from, list[:seq], seq, sum)
		}
	}
	if sumOf(newText) != sumNew {
		t.Errorf("the sum of %q is %d", newText, sumOf(newText))
	}
}

// noSeqs is numbers that are no sequence number, whatever the length of a list.
func noSeqs() []int {
	return []int{-1, -2, lastSeq + 1, lastSeq + 2, folds, 1 << 32, 1<<32 + 1, math.MinInt, math.MaxInt}
}

// TestP64EachSeq has lists of each length up to two more than a fold takes.
func TestP64EachSeq(t *testing.T) {
	lists := foldLists()
	lists = append(lists, append(slices.Clone(lists[folds]), impl.Req{}), append(slices.Clone(lists[folds]), joinOf(1), joinOf(2)), make([]impl.Req, 5000))
	for n, list := range lists {
		for seq := range lastSeq + 1 {
			if _, ok := checkOf(t, n%keepers, list, seq); ok != (n <= folds && seq <= n) {
				t.Errorf("CheckOf %d of %d requests is %v", seq, len(list), ok)
			}
		}
		for _, seq := range noSeqs() {
			mustNotCheckOf(t, "no sequence number", n%keepers, list, seq)
		}
		if n <= lastSeq {
			mustNotCheckOf(t, "one more than there are", n%keepers, list, n+1)
		}
	}
}

// TestP64AnyRequests has requests of which some fail, old ones and the null request.
func TestP64AnyRequests(t *testing.T) {
	c := &chance{state: 64}
	for range 400 {
		list := []impl.Req{joinOf(1 + c.below(clients))}
		for len(list) < lastSeq+1 {
			asks := append(asksOf(list[0].Client, 1+c.below(3)), joinOf(1+c.below(clients)), impl.Req{})
			list = append(list, asks[c.below(len(asks))])
		}
		for seq := range lastSeq + 1 {
			if _, ok := checkOf(t, c.below(keepers), list, seq); !ok {
				t.Errorf("CheckOf %d of %v fails", seq, list)
			}
		}
	}
}

// TestP64BadRequests has one in each place among the first ones, and behind them.
func TestP64BadRequests(t *testing.T) {
	good := mustReqs(t, "1 1 join 0 0", "none", "1 2 take 0 0", "2 1 join 0 0", "1 3 move 1 1", "none", "3 1 join 0 0")
	for _, bad := range badAsks() {
		for at := range len(good) {
			list := slices.Clone(good)
			list[at] = bad
			for seq := range lastSeq + 1 {
				if at < seq {
					mustNotCheckOf(t, "an invalid one among the first", 2, list, seq)
				} else if c, ok := checkOf(t, 2, list, seq); !ok || c.Sum != sumOf(impl.GamePut(impl.GameFold(good[:seq]))) {
					t.Errorf("an invalid one behind the first: CheckOf %d of %v is %v %v", seq, list, c, ok)
				}
			}
		}
	}
	full := append(slices.Clone(good), slices.Repeat(badAsks()[:1], folds-len(good))...)
	if _, ok := checkOf(t, 0, full, lastSeq); !ok {
		t.Error("CheckOf fails with many invalid ones behind the first")
	}
	mustNotCheckOf(t, "61 with invalid ones behind the first", 0, append(full, impl.Req{}), lastSeq)
}

func TestP64NullRequests(t *testing.T) {
	for n := range folds + 1 {
		for seq := range min(n, lastSeq) + 1 {
			mustCheckOf(t, n%keepers, make([]impl.Req, n), seq, sumNew)
		}
	}
}

func TestP64NoKeepers(t *testing.T) {
	for _, from := range noKeepers() {
		for seq := -1; seq <= 3; seq++ {
			mustNotCheckOf(t, "no replica", from, mustReqs(t, "1 1 join 0 0", "none"), seq)
		}
		mustNotCheckOf(t, "no replica", from, nil, 0)
	}
}

func mustAddCheck(t *testing.T, list []impl.Check, c impl.Check) []impl.Check {
	t.Helper()
	got, ok := checkAdd(t, list, c)
	if !ok || !slices.Equal(got, append(slices.Clone(list), c)) {
		t.Errorf("CheckAdd %v to %v is %v %v", c, list, got, ok)
	}
	return got
}

func mustNotAddCheck(t *testing.T, name string, list []impl.Check, c impl.Check, want []impl.Check) {
	t.Helper()
	if got, ok := checkAdd(t, list, c); ok || !slices.Equal(got, want) {
		t.Errorf("%s: CheckAdd %v to %v is %v %v, want %v", name, c, list, got, ok, want)
	}
}

// TestP65EachPlace fills lists in any order up to the last place, and tries again each that is there, with the same sum and with others.
func TestP65EachPlace(t *testing.T) {
	c := &chance{state: 65}
	for range 20 {
		var list []impl.Check
		for _, x := range anyChecks(c, checksMax) {
			list = mustAddCheck(t, list, x)
			for _, there := range list {
				mustNotAddCheck(t, "there", list, there, list)
				for _, sum := range []int{there.Sum ^ 1, sumMax - there.Sum} {
					mustNotAddCheck(t, "there with another sum", list, checksum(there.From, there.Seq, sum), list)
				}
			}
		}
	}
}

func TestP65Limits(t *testing.T) {
	list := sumsAt(3, 5)
	for _, from := range []int{-1, 0, keepers - 1, keepers} {
		for _, seq := range []int{-1, 0, lastSeq, lastSeq + 1} {
			for _, sum := range []int{-1, 0, sumMax, sumMax + 1} {
				good := from >= 0 && from < keepers && seq >= 0 && seq <= lastSeq && sum >= 0 && sum <= sumMax
				if got, ok := checkAdd(t, list, checksum(from, seq, sum)); ok != good {
					t.Errorf("CheckAdd %v is %v %v", checksum(from, seq, sum), got, ok)
				}
			}
		}
	}
}

func TestP65BadChecks(t *testing.T) {
	for _, list := range [][]impl.Check{nil, {}, sumsAt(5, 4), sumsAt(2, 5, 5, 5, 5), allChecks(9)[1:], allChecks(9)} {
		for _, c := range badChecks() {
			mustNotAddCheck(t, "invalid", list, c, list)
		}
	}
}

func TestP65Full(t *testing.T) {
	full := allChecks(7)
	for _, c := range slices.Concat(full, allChecks(8), []impl.Check{checksum(keepers, 0, 7), checksum(0, lastSeq+1, 7), {}}) {
		mustNotAddCheck(t, "full", full, c, full)
	}
	for at, c := range full {
		mustAddCheck(t, slices.Delete(slices.Clone(full), at, at+1), c)
	}
}

func TestP65BadLists(t *testing.T) {
	for _, b := range badCheckLists() {
		for _, c := range []impl.Check{checksum(2, 5, 9), checksum(3, 4, 9), b.list[0], b.list[len(b.list)-1], checksum(-1, 0, 0), {}} {
			mustNotAddCheck(t, b.name, b.list, c, nil)
		}
	}
}

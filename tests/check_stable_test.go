package tests

import (
	"math"
	"slices"
	"testing"

	"loop.example/wapentake/impl"
)

func mustBeStable(t *testing.T, name string, list []impl.Check, seq, sum int) {
	t.Helper()
	if gotSeq, got, ok := checkStable(t, list); !ok || gotSeq != seq || got != sum {
		t.Errorf("%s: CheckStable of %v is %d %d %v, want %d %d", name, list, gotSeq, got, ok, seq, sum)
	}
}

func mustNotBeStable(t *testing.T, name string, list []impl.Check) {
	t.Helper()
	if seq, sum, ok := checkStable(t, list); ok || seq != 0 || sum != 0 {
		t.Errorf("%s: CheckStable of %v is %d %d %v", name, list, seq, sum, ok)
	}
}

func TestP66OneSeq(t *testing.T) {
	mustNotBeStable(t, "none", nil)
	mustNotBeStable(t, "none", []impl.Check{})
	for seq := range lastSeq + 1 {
		for _, sum := range []int{0, 1, 77, sumMax} {
			other := sumMax - sum
			mustNotBeStable(t, "one", sumsAt(seq, sum))
			mustNotBeStable(t, "two", sumsAt(seq, sum, sum))
			mustBeStable(t, "three", sumsAt(seq, sum, sum, sum), seq, sum)
			mustBeStable(t, "four", sumsAt(seq, sum, sum, sum, sum), seq, sum)
			mustBeStable(t, "three and another sum", sumsAt(seq, sum, sum, other, sum), seq, sum)
			mustBeStable(t, "another sum and three", sumsAt(seq, other, sum, sum, sum), seq, sum)
			mustNotBeStable(t, "two sums, two of each", sumsAt(seq, sum, other, other, sum))
			mustNotBeStable(t, "two and another sum", sumsAt(seq, sum, sum, other))
			mustNotBeStable(t, "three sums", sumsAt(seq, sum, other, sum, 5))
			mustNotBeStable(t, "four sums", sumsAt(seq, sum, sum^2, sum^4, sum^8))
		}
	}
}

func TestP66SeveralSeqs(t *testing.T) {
	a, b, c := sumsAt(1, 4, 4, 4, 4), sumsAt(3, 6, 6, 6), sumsAt(5, 8, 8, 9, 9)
	mustBeStable(t, "the last one has none", slices.Concat(a, b, c), 3, 6)
	mustBeStable(t, "the last one comes first", slices.Concat(c, b, a), 3, 6)
	mustBeStable(t, "the last two have none", slices.Concat(b[1:], a, c), 1, 4)
	mustBeStable(t, "all have one", slices.Concat(b, sumsAt(5, 8, 8, 8), a), 5, 8)
	mustBeStable(t, "only the first one", slices.Concat(sumsAt(0, 0, 0, 0), a[:2], b[:2], c), 0, 0)
	mustNotBeStable(t, "three of one sum at three places", []impl.Check{checksum(0, 1, 4), checksum(1, 2, 4), checksum(2, 3, 4)})
	mustNotBeStable(t, "one replica at all places", []impl.Check{checksum(2, 0, 4), checksum(2, 1, 4), checksum(2, 2, 4), checksum(2, 3, 4), checksum(2, 4, 4), checksum(2, 5, 4)})
	mustNotBeStable(t, "two replicas at all places", slices.Concat(a[:2], b[:2], c[:2]))
	mustBeStable(t, "all places", allChecks(0), lastSeq, 0)
	mustBeStable(t, "all places", allChecks(sumMax), lastSeq, sumMax)
}

// TestP66TwoSeqs has at two sequence numbers, of each replica, no checksum or one of two sums.
func TestP66TwoSeqs(t *testing.T) {
	for code := range 6561 {
		var list []impl.Check
		for at := range 2 * keepers {
			if sum := code % 3; sum < 2 {
				list = append(list, checksum(at/2, 2+at%2, sum))
			}
			code /= 3
		}
		checkStable(t, list)
	}
}

func TestP66AnyChecks(t *testing.T) {
	stable := map[int]int{}
	for _, list := range manyChecks() {
		if seq, _, ok := checkStable(t, list); ok {
			stable[seq]++
		}
	}
	for seq := range lastSeq + 1 {
		if stable[seq] == 0 {
			t.Errorf("none of the lists is stable at %d", seq)
		}
	}
}

func TestP66BadLists(t *testing.T) {
	for _, b := range badCheckLists() {
		mustNotBeStable(t, b.name, b.list)
	}
}

// TestP66World has the checksums of replicas that agree, and of one that says anything.
func TestP66World(t *testing.T) {
	for bad := range keepers {
		r := newRun(t, bad)
		r.ask(joinOf(1), joinOf(2), mustReq(t, "1 2 take 0 0"), mustReq(t, "2 2 move 0 1"), joinOf(4))
		w := calm(t, r.w, 2)
		var list []impl.Check
		last := 0
		for _, k := range w.Reps {
			done := impl.RepList(k)
			for seq := range len(done) + 1 {
				c, ok := checkOf(t, k.Me, done, seq)
				if !ok {
					t.Fatalf("CheckOf %d %d of %v fails", k.Me, seq, done)
				}
				if k.Me == bad {
					c.Sum ^= 1
				} else {
					last = max(last, seq)
				}
				list = mustAddCheck(t, list, c)
			}
		}
		want, _ := checkOf(t, (bad+1)%keepers, impl.RepList(w.Reps[(bad+1)%keepers]), last)
		if bad != 0 && last != lastSeq {
			t.Errorf("with bad %d, %d requests are done", bad, last)
		}
		mustBeStable(t, "a world", list, last, want.Sum)
	}
}

func mustCut(t *testing.T, name string, list []impl.Check, seq int, want ...impl.Check) {
	t.Helper()
	if got := checkCut(t, list, seq); !slices.Equal(got, want) {
		t.Errorf("%s: CheckCut %d of %v is %v, want %v", name, seq, list, got, want)
	}
}

func TestP67Examples(t *testing.T) {
	a, b, c, d := checksum(2, 4, 5), checksum(0, 1, sumMax), checksum(3, 4, 0), checksum(1, 2, 5)
	list := []impl.Check{a, b, c, d}
	for _, seq := range []int{math.MinInt, -1 << 32, -2, -1, 0} {
		mustCut(t, "below all", list, seq, a, b, c, d)
	}
	mustCut(t, "the first one", list, 1, a, c, d)
	mustCut(t, "the second one", list, 2, a, c)
	mustCut(t, "between", list, 3, a, c)
	for _, seq := range []int{4, 5, 6, 7, 1 << 32, math.MaxInt} {
		mustCut(t, "above all", list, seq)
	}
	first := checksum(3, 0, 8)
	mustCut(t, "seq 0 is not cut by -1", []impl.Check{d, first, a}, -1, d, first, a)
	mustCut(t, "seq 0 is cut by 0", []impl.Check{d, first, a}, 0, d, a)
	mustCut(t, "none", nil, 2)
	mustCut(t, "none", []impl.Check{}, math.MinInt)
	for seq := range lastSeq + 1 {
		mustCut(t, "all places", allChecks(3), seq, allChecks(3)[keepers*(seq+1):]...)
	}
}

func TestP67AnyChecks(t *testing.T) {
	for _, list := range manyChecks() {
		for seq := -1; seq <= lastSeq+1; seq++ {
			checkCut(t, list, seq)
		}
		mustCut(t, "the smallest number", list, math.MinInt, list...)
		mustCut(t, "the largest number", list, math.MaxInt)
	}
}

// TestP67Stable cuts what is behind, up to what is stable.
func TestP67Stable(t *testing.T) {
	list := slices.Concat(sumsAt(5, 1, 2), sumsAt(4, 8, 8, 8, 8), sumsAt(2, 5, 5, 5), sumsAt(0, 1, 1, 1))
	for seq := -1; seq < 4; seq++ {
		mustBeStable(t, "a later one", checkCut(t, list, seq), 4, 8)
	}
	mustNotBeStable(t, "cut", checkCut(t, list, 4))
	mustCut(t, "what is stable", list, 4, list[:2]...)
}

func TestP67BadLists(t *testing.T) {
	for _, b := range badCheckLists() {
		for _, seq := range []int{math.MinInt, -1, 0, 3, lastSeq, math.MaxInt} {
			mustCut(t, b.name, b.list, seq)
		}
	}
}

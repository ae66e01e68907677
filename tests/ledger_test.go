package tests

import (
	"math"
	"slices"
	"testing"

	"loop.example/wapentake/impl"
)

func TestP32Examples(t *testing.T) {
	list := mustReqs(t, "1 1 join 0 0", "none", "4 30 move -1 1")
	want := []impl.Entry{{Req: list[0], Sum: 1181076027}, {Sum: 1570488456}, {Req: list[2], Sum: 399527156}}
	if got := ledgerOf(t, list); !slices.Equal(got, want) {
		t.Errorf("LedgerOf is %v, want %v", got, want)
	}
	if got := ledgerOf(t, make([]impl.Req, 1)); !slices.Equal(got, []impl.Entry{{Sum: 1727475806}}) {
		t.Errorf("LedgerOf the null request is %v", got)
	}
}

// checkP32 looks at what the promise says.
func checkP32(t *testing.T, list []impl.Req) {
	t.Helper()
	rows := ledgerOf(t, list)
	if far(t, rows) != len(list) || len(rows) != len(list) {
		t.Fatalf("LedgerOf %v\nis %v", list, rows)
	}
	var one []impl.Entry
	for i, r := range list {
		next, ok := ledgerAdd(t, one, r)
		if !ok || !slices.Equal(next, rows[:i+1]) {
			t.Fatalf("%v added to %v: %v %v, want %v", r, one, next, ok, rows[:i+1])
		}
		one = next
	}
}

func TestP32EachLength(t *testing.T) {
	for _, list := range foldLists() {
		checkP32(t, list)
	}
	for n := range folds + 1 {
		checkP32(t, make([]impl.Req, n))
	}
}

func TestP32EachRequest(t *testing.T) {
	before := mustReqs(t, "none", "4 30 give 4 9")
	for _, r := range allAsks() {
		ledgerOf(t, []impl.Req{r})
		ledgerOf(t, append(before, r))
	}
}

func TestP32NoRequests(t *testing.T) {
	for _, list := range [][]impl.Req{nil, {}} {
		if rows := ledgerOf(t, list); len(rows) != 0 {
			t.Errorf("LedgerOf no requests is %v", rows)
		}
	}
	if far(t, nil) != 0 || far(t, []impl.Entry{}) != 0 {
		t.Error("LedgerFar of no entries is not 0")
	}
}

func TestP32NullInBetween(t *testing.T) {
	checkP32(t, mustReqs(t, "none", "1 1 join 0 0", "none", "none", "1 2 take 0 0", "1 2 take 0 0", "none"))
}

func TestP32FoldMax(t *testing.T) {
	most := foldLists()[folds]
	checkP32(t, most)
	for _, more := range []int{1, 2, 1000} {
		if rows := ledgerOf(t, append(slices.Clone(most), make([]impl.Req, more)...)); rows != nil {
			t.Errorf("%d requests: %v", folds+more, rows)
		}
	}
}

func TestP32BadRequests(t *testing.T) {
	for _, list := range [][]impl.Req{make([]impl.Req, 1), mustReqs(t, "1 1 join 0 0", "none", "1 2 take 0 0", "2 1 join 0 0"), foldLists()[folds]} {
		for at := range list {
			for _, bad := range badAsks() {
				with := slices.Clone(list)
				with[at] = bad
				if rows := ledgerOf(t, with); rows != nil {
					t.Fatalf("%v at %d: %v", bad, at, rows)
				}
			}
		}
	}
}

func TestP33EachPrefix(t *testing.T) {
	for _, rows := range someLedgers() {
		for n := range len(rows) + 1 {
			if far(t, rows[:n]) != n {
				t.Fatalf("LedgerFar of %d correct entries is %d", n, impl.LedgerFar(rows[:n]))
			}
		}
	}
}

// sumsOff is Sums that are not this one, some of which are the same in fewer bits.
func sumsOff(sum int) []int {
	list := []int{sum + 1, sum - 1, -sum - 1, sum + 1<<32, sum - 1<<32, sum ^ 1<<31, sum ^ math.MinInt, math.MinInt, math.MaxInt}
	for _, n := range []int{0, -1, 1<<32 - 1, 1 << 32} {
		if n != sum {
			list = append(list, n)
		}
	}
	return list
}

func TestP33SumAltered(t *testing.T) {
	for _, rows := range someLedgers() {
		for at, e := range rows {
			for _, sum := range sumsOff(e.Sum) {
				bent := slices.Clone(rows)
				bent[at].Sum = sum
				if got := far(t, bent); got != at {
					t.Fatalf("Sum %d for %d at %d: LedgerFar is %d", sum, e.Sum, at, got)
				}
			}
		}
	}
}

func TestP33RequestAltered(t *testing.T) {
	for _, n := range []int{1, 2, 7, folds} {
		rows := ledgerWith(n)
		for _, at := range placesOf(n) {
			others := append(badAsks(), reqsOff(rows[at].Req)...)
			others = append(others, joinOf(1), joinOf(4), impl.Req{})
			for _, r := range others {
				bent := slices.Clone(rows)
				bent[at].Req = r
				if got := far(t, bent); r != rows[at].Req && got != at {
					t.Fatalf("%v at %d: LedgerFar is %d", r, at, got)
				}
			}
		}
	}
}

// wrongEntries is entries that are not correct at a position, which starts at 1, behind one with that Sum: nearly all are correct somewhere else.
func wrongEntries(before, position int) []impl.Entry {
	r := impl.Req{Client: 2, Num: 30, Op: 2, X: -1, Y: 1}
	right := modelEntry(before, position, r)
	list := []impl.Entry{
		{}, {Req: r}, {Req: r, Sum: before}, {Sum: right.Sum}, {Req: joinOf(1), Sum: right.Sum}, {Req: r, Sum: right.Sum + 1<<32},
		modelEntry(before, position-1, r), modelEntry(before, position+1, r), modelEntry(before+1, position, r),
		{Req: r, Sum: sumOf(textOf(r))}, {Req: r, Sum: right.Sum ^ 1}, {Req: impl.Req{}, Sum: sumOf("")},
	}
	if before != 0 {
		list = append(list, modelEntry(0, position, r), modelEntry(0, 1, r))
	}
	for _, bad := range badAsks() {
		// The sums that a program might have for a request without a text.
		for _, text := range []string{"", "none"} {
			list = append(list, impl.Entry{Req: bad, Sum: sumOf(chainText(before, position, text))})
		}
	}
	return list
}

func TestP33WrongEntryBehind(t *testing.T) {
	for _, n := range []int{0, 1, 2, 30, folds - 1, folds} {
		rows := ledgerWith(n)
		for _, e := range wrongEntries(lastSum(rows), n+1) {
			if got := far(t, append(slices.Clone(rows), e)); got != n {
				t.Fatalf("%v behind %d entries: LedgerFar is %d", e, n, got)
			}
		}
	}
}

func TestP33WrongPlace(t *testing.T) {
	rows := ledgerWith(folds)
	for at := range folds - 1 {
		swapped := slices.Clone(rows)
		swapped[at], swapped[at+1] = swapped[at+1], swapped[at]
		twice := slices.Insert(slices.Clone(rows), at+1, rows[at])
		gone := slices.Delete(slices.Clone(rows), at, at+1)
		if far(t, swapped) != at || far(t, twice) != at+1 || far(t, gone) != at {
			t.Fatalf("at %d: LedgerFar is %d, %d and %d", at, impl.LedgerFar(swapped), impl.LedgerFar(twice), impl.LedgerFar(gone))
		}
	}
}

func TestP33LongerThanFoldMax(t *testing.T) {
	rows := modelChain(slices.Concat(foldLists()[folds], foldLists()[folds]))
	for n := folds; n <= len(rows); n++ {
		if got := far(t, rows[:n]); got != folds {
			t.Fatalf("LedgerFar of %d entries in a chain is %d", n, got)
		}
		if s := ledgerPut(t, rows[:n]); (s == "") != (n > folds) {
			t.Fatalf("LedgerPut of %d entries in a chain is %q", n, s)
		}
	}
	for _, at := range []int{0, 30, folds - 2, folds - 1, folds, folds + 1, 2*folds - 1} {
		bent := slices.Clone(rows)
		bent[at].Sum++
		if got := far(t, bent); got != min(at, folds) {
			t.Errorf("wrong at %d: LedgerFar is %d", at, got)
		}
	}
}

package tests

import (
	"slices"
	"testing"

	"loop.example/wapentake/impl"
)

func TestP34EachLength(t *testing.T) {
	for _, rows := range someLedgers()[:folds] {
		for _, r := range []impl.Req{{}, joinOf(3), {Client: 4, Num: 30, Op: 5, X: 4, Y: 9}, {Client: 1, Num: 2, Op: 2, X: -1, Y: -1}} {
			next, ok := ledgerAdd(t, rows, r)
			if !ok || far(t, next) != far(t, rows)+1 || next[len(rows)].Req != r || !slices.Equal(next[:len(rows)], rows) {
				t.Fatalf("%v added to %v: %v %v", r, rows, next, ok)
			}
		}
	}
}

func TestP34EachRequest(t *testing.T) {
	rows := ledgerWith(3)
	for _, r := range allAsks() {
		if next, ok := ledgerAdd(t, rows, r); !ok || far(t, next) != 4 {
			t.Fatalf("%v is not added: %v", r, next)
		}
	}
}

// mustNotAdd fails if the request is added, or something else than the list comes back.
func mustNotAdd(t *testing.T, name string, list []impl.Entry, r impl.Req) {
	t.Helper()
	if next, ok := ledgerAdd(t, list, r); ok || !slices.Equal(next, list) {
		t.Fatalf("%s: %v added to %v: %v %v", name, r, list, next, ok)
	}
}

func TestP34BadRequests(t *testing.T) {
	for _, n := range []int{0, 1, 5, folds - 1, folds} {
		for _, bad := range badAsks() {
			mustNotAdd(t, "bad request", ledgerWith(n), bad)
		}
	}
}

func TestP34FoldMax(t *testing.T) {
	rows := ledgerWith(folds - 1)
	full, ok := ledgerAdd(t, rows, joinOf(1))
	if !ok || far(t, full) != folds {
		t.Fatalf("the last one is not added: %v", full)
	}
	long := modelChain(make([]impl.Req, 3*folds))
	for _, r := range []impl.Req{{}, joinOf(2)} {
		mustNotAdd(t, "FoldMax entries", full, r)
		for _, n := range []int{folds, folds + 1, folds + 2, 3 * folds} {
			mustNotAdd(t, "a long chain", long[:n], r)
		}
	}
}

func TestP34NoLedger(t *testing.T) {
	for _, n := range []int{1, 2, 3, 30, folds - 1, folds} {
		rows := ledgerWith(n)
		for _, at := range placesOf(n) {
			bent := slices.Clone(rows)
			bent[at].Sum++
			mustNotAdd(t, "Sum", bent, joinOf(1))
			mustNotAdd(t, "Sum, and null", bent, impl.Req{})
			bent = slices.Clone(rows)
			bent[at].Req = impl.Req{Client: 3, Num: 29, Op: 5, X: 1, Y: 1}
			mustNotAdd(t, "request", bent, joinOf(1))
			bent[at].Req = impl.Req{Client: 9}
			mustNotAdd(t, "bad request", bent, joinOf(1))
			gone := slices.Delete(slices.Clone(rows), at, at+1)
			if at < n-1 {
				mustNotAdd(t, "position", gone, joinOf(1))
			}
		}
	}
	mustNotAdd(t, "zero entry", make([]impl.Entry, 1), joinOf(1))
	mustNotAdd(t, "many zero entries", make([]impl.Entry, 1000), joinOf(1))
}

// TestP34Alone has results over which one may write: the ledger from which they came, and one made from it later, stay.
func TestP34Alone(t *testing.T) {
	rows := impl.LedgerOf(mustReqs(t, "1 1 join 0 0", "none", "none"))
	first, _ := impl.LedgerAdd(rows, joinOf(2))
	second, _ := impl.LedgerAdd(rows, joinOf(3))
	if !slices.Equal(first, modelChain(mustReqs(t, "1 1 join 0 0", "none", "none", "2 1 join 0 0"))) {
		t.Errorf("the first one became %v", first)
	}
	if !slices.Equal(second, modelChain(mustReqs(t, "1 1 join 0 0", "none", "none", "3 1 join 0 0"))) {
		t.Errorf("the second one is %v", second)
	}
}

package tests

import (
	"slices"
	"testing"

	"loop.example/wapentake/impl"
)

func roomyEntries(list []impl.Entry) []impl.Entry {
	return roomy(list, impl.Entry{Req: impl.Req{Client: -7}, Sum: -7})
}

func roomyReqs(list []impl.Req) []impl.Req {
	return roomy(list, impl.Req{Client: -7})
}

// untouched calls use with a copy of the list that has spare capacity, and fails if the list or what is in the spare capacity is another then.
func untouched[T comparable](t *testing.T, list []T, use func([]T)) {
	t.Helper()
	before := slices.Clone(list[:cap(list)])
	use(list)
	if !slices.Equal(list[:cap(list)], before) {
		t.Fatalf("an argument is changed, or shares memory with the result: %v, before %v", list[:cap(list)], before)
	}
}

// ownEntries is a copy of a result, over which it then writes.
func ownEntries(list []impl.Entry) []impl.Entry {
	kept := slices.Clone(list)
	overwrite(list, impl.Entry{Sum: -9})
	return kept
}

// ledgerOf is LedgerOf, held against the model; so are the next ones with the functions of their names.
func ledgerOf(t *testing.T, list []impl.Req) []impl.Entry {
	t.Helper()
	var want, got []impl.Entry
	if len(list) <= folds && modelAllOkOrNull(list) {
		want = modelChain(list)
	}
	untouched(t, roomyReqs(list), func(list []impl.Req) {
		got = ownEntries(impl.LedgerOf(list))
	})
	if !slices.Equal(got, want) {
		t.Fatalf("LedgerOf %v\nis   %v\nwant %v", list, got, want)
	}
	return got
}

func far(t *testing.T, list []impl.Entry) int {
	t.Helper()
	got, want := 0, modelFar(list)
	untouched(t, roomyEntries(list), func(list []impl.Entry) {
		got = impl.LedgerFar(list)
	})
	if got != want {
		t.Fatalf("LedgerFar is %d, want %d, of %v", got, want, list)
	}
	return got
}

func ledgerAdd(t *testing.T, list []impl.Entry, r impl.Req) ([]impl.Entry, bool) {
	t.Helper()
	want, wantOk := list, len(list) < folds && modelFar(list) == len(list) && modelOkOrNull(r)
	if wantOk {
		want = append(slices.Clone(list), modelEntry(lastSum(list), len(list)+1, r))
	}
	var got []impl.Entry
	ok := false
	untouched(t, roomyEntries(list), func(list []impl.Entry) {
		got, ok = impl.LedgerAdd(list, r)
		got = ownEntries(got)
	})
	if ok != wantOk || !slices.Equal(got, want) {
		t.Fatalf("LedgerAdd %v\nto   %v\nis   %v %v\nwant %v %v", r, list, got, ok, want, wantOk)
	}
	return got, ok
}

// meet looks both ways, and at what promise 35 says.
func meet(t *testing.T, a, b []impl.Entry) int {
	t.Helper()
	got, back := 0, 0
	untouched(t, roomyEntries(a), func(a []impl.Entry) {
		untouched(t, roomyEntries(b), func(b []impl.Entry) {
			got, back = impl.LedgerMeet(a, b), impl.LedgerMeet(b, a)
		})
	})
	if want := modelMeet(a, b); got != want || back != want {
		t.Fatalf("LedgerMeet is %d, and %d the other way, want %d, of\n%v\n%v", got, back, want, a, b)
	}
	if !slices.Equal(a[:got], b[:got]) || got < modelFar(a) && got < modelFar(b) && a[got] == b[got] {
		t.Fatalf("LedgerMeet is %d, of\n%v\n%v", got, a, b)
	}
	return got
}

func ledgerPut(t *testing.T, list []impl.Entry) string {
	t.Helper()
	got, want := "", modelLedgerText(list)
	untouched(t, roomyEntries(list), func(list []impl.Entry) {
		got = impl.LedgerPut(list)
	})
	if got != want {
		t.Fatalf("LedgerPut is %q, want %q", got, want)
	}
	return got
}

// someLedgers is a valid ledger of each length up to FoldMax.
func someLedgers() [][]impl.Entry {
	var ledgers [][]impl.Entry
	for _, list := range foldLists() {
		ledgers = append(ledgers, modelChain(list))
	}
	return ledgers
}

// ledgerWith is the one of them with n entries.
func ledgerWith(n int) []impl.Entry {
	return modelChain(foldLists()[n])
}

// placesOf is the first, a middle and the last position of that many.
func placesOf(n int) []int {
	return slices.Compact([]int{0, n / 2, n - 1})
}

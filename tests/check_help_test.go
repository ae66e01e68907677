package tests

import (
	"math"
	"slices"
	"strconv"
	"testing"

	"loop.example/wapentake/impl"
)

// checksMax is the largest number of checksums as the document gives it.
const checksMax = keepers * (lastSeq + 1)

func checksum(from, seq, sum int) impl.Check {
	return impl.Check{From: from, Seq: seq, Sum: sum}
}

// sumsAt is checksums at one sequence number, of the replicas from 0 on.
func sumsAt(seq int, sums ...int) []impl.Check {
	var list []impl.Check
	for from, sum := range sums {
		list = append(list, checksum(from, seq, sum))
	}
	return list
}

// allChecks is a checksum of each replica at each sequence number, all with that sum.
func allChecks(sum int) []impl.Check {
	var list []impl.Check
	for seq := range lastSeq + 1 {
		list = append(list, sumsAt(seq, sum, sum, sum, sum)...)
	}
	return list
}

// anyChecks is n checksums in any order, with few different sums.
func anyChecks(c *chance, n int) []impl.Check {
	list := allChecks(0)
	shuffle(c, list)
	for i := range list {
		list[i].Sum = []int{0, 0, 0, sumMax, 77}[c.below(5)]
	}
	return list[:n]
}

// manyChecks is some lists of each length.
func manyChecks() [][]impl.Check {
	c := &chance{state: 15}
	var lists [][]impl.Check
	for n := range checksMax + 1 {
		for range 40 {
			lists = append(lists, anyChecks(c, n))
		}
	}
	return lists
}

func roomyChecks(list []impl.Check) []impl.Check {
	return roomy(list, checksum(-7, -7, -7))
}

// ownChecks is a copy of a result, over which it then writes.
func ownChecks(list []impl.Check) []impl.Check {
	kept := slices.Clone(list)
	overwrite(list, checksum(-9, -9, -9))
	return kept
}

// checksOk is CheckOk, held against the model; so are the next ones with the functions of their names, and against the promises 64 to 67.
func checksOk(t *testing.T, list []impl.Check) bool {
	t.Helper()
	got := false
	untouched(t, roomyChecks(list), func(list []impl.Check) { got = impl.CheckOk(list) })
	if want := modelChecksOk(list); got != want {
		t.Fatalf("CheckOk is %v of %v", got, list)
	}
	return got
}

func checkOf(t *testing.T, from int, list []impl.Req, seq int) (impl.Check, bool) {
	t.Helper()
	var got impl.Check
	ok := false
	untouched(t, roomyReqs(list), func(list []impl.Req) { got, ok = impl.CheckOf(from, list, seq) })
	if want, wantOk := modelCheckOf(from, list, seq); ok != wantOk || got != want {
		t.Fatalf("CheckOf %d %d of %v\nis   %v %v\nwant %v %v", from, seq, list, got, ok, want, wantOk)
	}
	if ok {
		checkP64(t, list, got)
	}
	return got, ok
}

func checkP64(t *testing.T, list []impl.Req, got impl.Check) {
	t.Helper()
	if want := impl.Crc(impl.GamePut(impl.GameFold(list[:got.Seq]))); got.Sum != want || !impl.CheckOk([]impl.Check{got}) {
		t.Fatalf("%v of %v, want %d", got, list, want)
	}
	for other := range keepers {
		for _, reqs := range [][]impl.Req{list, list[:got.Seq]} {
			if c, ok := impl.CheckOf(other, reqs, got.Seq); !ok || c != checksum(other, got.Seq, got.Sum) {
				t.Fatalf("%v of %v, but %v %v of %v", got, list, c, ok, reqs)
			}
		}
	}
}

func checkAdd(t *testing.T, list []impl.Check, c impl.Check) ([]impl.Check, bool) {
	t.Helper()
	var got []impl.Check
	ok := false
	untouched(t, roomyChecks(list), func(list []impl.Check) {
		got, ok = impl.CheckAdd(list, c)
		got = ownChecks(got)
	})
	if want, wantOk := modelCheckAdd(list, c); ok != wantOk || !slices.Equal(got, want) {
		t.Fatalf("CheckAdd %v\nto   %v\nis   %v %v\nwant %v %v", c, list, got, ok, want, wantOk)
	}
	if ok {
		checkP65(t, list, got, c)
	}
	return got, ok
}

func checkP65(t *testing.T, list, got []impl.Check, c impl.Check) {
	t.Helper()
	if !impl.CheckOk(got) || !slices.Equal(got, append(slices.Clone(list), c)) {
		t.Fatalf("%v added to %v: %v", c, list, got)
	}
	if again, ok := impl.CheckAdd(got, c); ok || !slices.Equal(again, got) {
		t.Fatalf("%v added again to %v: %v %v", c, got, again, ok)
	}
	seq, sum, stable := impl.CheckStable(list)
	later, laterSum, still := impl.CheckStable(got)
	if same := still == stable && later == seq && laterSum == sum; !same && (!still || stable && later <= seq) {
		t.Fatalf("CheckStable of %v is %d %d %v, and with %v %d %d %v", list, seq, sum, stable, c, later, laterSum, still)
	}
}

func checkStable(t *testing.T, list []impl.Check) (int, int, bool) {
	t.Helper()
	seq, sum, ok := 0, 0, false
	untouched(t, roomyChecks(list), func(list []impl.Check) { seq, sum, ok = impl.CheckStable(list) })
	if wantSeq, want, wantOk := modelStable(list); ok != wantOk || seq != wantSeq || sum != want {
		t.Fatalf("CheckStable of %v\nis   %d %d %v\nwant %d %d %v", list, seq, sum, ok, wantSeq, want, wantOk)
	}
	checkP66(t, list, seq, sum, ok)
	return seq, sum, ok
}

func checkP66(t *testing.T, list []impl.Check, seq, sum int, ok bool) {
	t.Helper()
	many := 0
	for _, c := range list {
		if c.Seq == seq && c.Sum == sum {
			many++
		}
	}
	if ok && many < quorum {
		t.Fatalf("CheckStable of %v is %d %d", list, seq, sum)
	}
	other := slices.Clone(list)
	slices.Reverse(other)
	for range 2 {
		if otherSeq, otherSum, otherOk := impl.CheckStable(other); otherOk != ok || otherSeq != seq || otherSum != sum {
			t.Fatalf("CheckStable of %v is %d %d %v, and in another order %d %d %v", list, seq, sum, ok, otherSeq, otherSum, otherOk)
		}
		shuffle(&chance{state: 66}, other)
	}
}

func checkCut(t *testing.T, list []impl.Check, seq int) []impl.Check {
	t.Helper()
	var got []impl.Check
	untouched(t, roomyChecks(list), func(list []impl.Check) { got = ownChecks(impl.CheckCut(list, seq)) })
	if want := modelCut(list, seq); !slices.Equal(got, want) {
		t.Fatalf("CheckCut %d of %v\nis   %v\nwant %v", seq, list, got, want)
	}
	if impl.CheckOk(list) {
		checkP67(t, list, seq, got)
	}
	return got
}

func checkP67(t *testing.T, list []impl.Check, seq int, got []impl.Check) {
	t.Helper()
	if slices.ContainsFunc(got, func(c impl.Check) bool { return c.Seq <= seq }) {
		t.Fatalf("CheckCut %d of %v is %v", seq, list, got)
	}
	if again := impl.CheckCut(got, seq); !slices.Equal(again, got) {
		t.Fatalf("CheckCut %d of %v is %v, and again %v", seq, list, got, again)
	}
	at, sum, ok := impl.CheckStable(list)
	if cutAt, cutSum, cutOk := impl.CheckStable(got); ok && at > seq && (cutAt != at || cutSum != sum || !cutOk) {
		t.Fatalf("CheckStable of %v is %d %d, and cut at %d %d %d %v", list, at, sum, seq, cutAt, cutSum, cutOk)
	}
}

// noKeepers is numbers that are no replica's.
func noKeepers() []int {
	return []int{-1, -keepers, keepers, keepers + 1, 1 << 32, 1<<32 + 1, math.MinInt, math.MaxInt}
}

// badChecks is checksums of which one field is in no range.
func badChecks() []impl.Check {
	list := []impl.Check{checksum(1, lastSeq+1, 5), checksum(1, lastSeq+2, 5), checksum(1, 2, sumMax+1), checksum(1, 2, 1<<33-1)}
	for _, n := range noKeepers() {
		list = append(list, checksum(n, 2, 5))
	}
	for _, n := range []int{-1, math.MinInt, math.MaxInt, 1 << 40} {
		list = append(list, checksum(1, n, 5), checksum(1, 2, n), checksum(n, n, n))
	}
	return list
}

type namedChecks struct {
	name string
	list []impl.Check
}

// badCheckLists is lists that each break one rule of CheckOk. Most of them have a quorum at sequence number 4.
func badCheckLists() []namedChecks {
	good := append(sumsAt(4, 9, 9, 9), sumsAt(0, 1, 2, 3, 1)...)
	list := []namedChecks{
		{"25, one of them twice", append(allChecks(9), checksum(3, 5, 9))}, {"25, one of a fifth replica", append(allChecks(9), checksum(keepers, 5, 9))},
		{"25, one beyond the last", append(allChecks(9), checksum(0, lastSeq+1, 9))}, {"48", append(allChecks(9), allChecks(9)...)}, {"one, 10000 times", slices.Repeat(sumsAt(4, 9), 10000)},
		{"24, one of them twice", append(allChecks(9)[1:], checksum(3, 5, 9))}, {"24, one of them twice with another sum", append(allChecks(9)[1:], checksum(3, 5, 8))},
	}
	for at := range len(good) + 1 {
		add := func(name string, c impl.Check) {
			list = append(list, namedChecks{name + " at " + strconv.Itoa(at), slices.Insert(slices.Clone(good), at, c)})
		}
		for i, c := range badChecks() {
			add("bad one "+strconv.Itoa(i), c)
		}
		for i, c := range good {
			add("twice "+strconv.Itoa(i), c)
			add("twice with another sum "+strconv.Itoa(i), checksum(c.From, c.Seq, c.Sum^1))
		}
	}
	return list
}

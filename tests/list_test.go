package tests

import (
	"slices"
	"testing"

	"loop.example/wapentake/impl"
)

// doneAt is claims with these sequence numbers, of different views and requests.
func doneAt(seqs ...int) []impl.Claim {
	var list []impl.Claim
	for i, seq := range seqs {
		c := claim(seq, (5*seq+i)%(lastView+1), joinOf(1+seq%clients))
		if seq == 4 {
			c.Req = impl.Req{}
		}
		list = append(list, c)
	}
	return list
}

func mustList(t *testing.T, r impl.Rep, want []impl.Req) {
	t.Helper()
	arg := roomyRep(r)
	got := impl.RepList(arg)
	if !slices.Equal(got, want) || !slices.Equal(got, modelRepList(r)) {
		t.Fatalf("RepList is %v, want %v, done %v", got, want, r.Done)
	}
	for i := range got[:cap(got)] {
		got[:cap(got)][i] = impl.Req{Client: 9}
	}
	if wholeText(arg) != wholeText(roomyRep(r)) || !slices.Equal(impl.RepList(r), want) {
		t.Fatalf("RepList shares memory, done %v", r.Done)
	}
}

// TestP19EachDone has each set of sequence numbers: none, without the first, with a gap, and without one.
func TestP19EachDone(t *testing.T) {
	for bits := range 1 << lastSeq {
		var seqs []int
		for seq := 1; seq <= lastSeq; seq++ {
			if bits>>(seq-1)&1 == 1 {
				seqs = append(seqs, seq)
			}
		}
		done := doneAt(seqs...)
		var want []impl.Req
		for i := 0; i < len(done) && done[i].Seq == i+1; i++ {
			want = append(want, done[i].Req)
		}
		for _, r := range []impl.Rep{repIn(0, 0), leaving(3, lastView), busyRep()} {
			r.Done = done
			mustList(t, r, want)
		}
	}
}

func TestP19Cases(t *testing.T) {
	a, b, null := joinOf(1), joinOf(2), impl.Req{}
	cases := []struct {
		name string
		done []impl.Claim
		want []impl.Req
	}{
		{"empty", nil, nil},
		{"only the first", []impl.Claim{claim(1, 3, a)}, []impl.Req{a}},
		{"only the second", []impl.Claim{claim(2, 0, a)}, nil},
		{"without the first", []impl.Claim{claim(2, 0, a), claim(3, 0, b), claim(4, 0, a), claim(5, 0, b)}, nil},
		{"a gap at 2", []impl.Claim{claim(1, 0, a), claim(3, 0, b), claim(4, 0, null)}, []impl.Req{a}},
		{"a gap at 4", []impl.Claim{claim(1, 0, a), claim(2, 0, null), claim(3, 0, b), claim(5, 0, a)}, []impl.Req{a, null, b}},
		{"no gap", []impl.Claim{claim(1, 2, b), claim(2, 1, a)}, []impl.Req{b, a}},
		{"one request twice", []impl.Claim{claim(1, 0, a), claim(2, 0, a)}, []impl.Req{a, a}},
		{"null is no gap", []impl.Claim{claim(1, 0, null), claim(2, 1, null), claim(3, 2, b)}, []impl.Req{null, null, b}},
		{"all", []impl.Claim{claim(1, 0, a), claim(2, 6, b), claim(3, 0, null), claim(4, 1, b), claim(5, 2, a)}, []impl.Req{a, b, null, b, a}},
	}
	for _, x := range cases {
		r := repIn(1, 1)
		r.Done = x.done
		mustList(t, r, x.want)
	}
}

func TestP19InvalidReplica(t *testing.T) {
	for name, r := range badReps() {
		if list := impl.RepList(r); list != nil {
			t.Errorf("%s: RepList is %v", name, list)
		}
	}
	r := repIn(0, 0)
	r.Done = []impl.Claim{claim(1, 0, joinOf(1)), claim(2, 0, joinOf(2)), claim(2, 1, joinOf(2))}
	if list := impl.RepList(r); list != nil {
		t.Errorf("one number is done twice: RepList is %v", list)
	}
}

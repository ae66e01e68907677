package tests

import (
	"math"
	"strings"
	"testing"

	"loop.example/wapentake/impl"
)

func TestLimitsOfRequestsAndGame(t *testing.T) {
	got := []int{
		impl.OpJoin, impl.OpMove, impl.OpTake, impl.OpHit, impl.OpGive,
		impl.ClientMax, impl.NumMax, impl.GiveMax, impl.Side, impl.LifeMax, impl.GoldAll, impl.FoldMax,
		impl.CodeFine, impl.CodeForm, impl.CodeNone, impl.CodeOld, impl.CodeThere,
		impl.CodeOff, impl.CodeEdge, impl.CodePoor, impl.CodeFar,
	}
	want := []int{1, 2, 3, 4, 5, 4, 30, 9, 4, 3, 20, 60, 0, 1, 2, 3, 4, 5, 6, 7, 8}
	for i := range want {
		if got[i] != want[i] {
			t.Errorf("constant %d is %d, want %d", i, got[i], want[i])
		}
	}
}

// TestP1EveryRequestNearTheLimits looks at each request around the limits: the document's table says which are valid.
func TestP1EveryRequestNearTheLimits(t *testing.T) {
	valid := map[impl.Req]bool{}
	for _, r := range allAsks() {
		valid[r] = true
	}
	for _, num := range []int{-1, 0, 1, 2, 29, 30, 31} {
		for client := -1; client <= clients+1; client++ {
			for op := -1; op <= 6; op++ {
				for x := -2; x <= 5; x++ {
					for y := -2; y <= 10; y++ {
						r := impl.Req{Client: client, Num: num, Op: op, X: x, Y: y}
						checkP1(t, r, valid[r])
					}
				}
			}
		}
	}
}

func TestP1EveryValidRequest(t *testing.T) {
	for _, r := range allAsks() {
		checkP1(t, r, true)
	}
}

func checkP1(t *testing.T, r impl.Req, valid bool) {
	t.Helper()
	if impl.ReqOk(r) != valid {
		t.Fatalf("ReqOk(%v) is %v", r, !valid)
	}
	s := impl.ReqPut(r)
	if !valid && r != (impl.Req{}) {
		if s != "" {
			t.Fatalf("ReqPut(%v) is %q, want nothing", r, s)
		}
		return
	}
	if s != textOf(r) {
		t.Fatalf("ReqPut(%v) is %q", r, s)
	}
	if back, ok := impl.ReqGet(s); !ok || back != r {
		t.Fatalf("ReqGet(%q) is %v %v", s, back, ok)
	}
}

func TestP1Null(t *testing.T) {
	if impl.ReqOk(impl.Req{}) {
		t.Error("the null request is not valid")
	}
	if s := impl.ReqPut(impl.Req{}); s != "none" {
		t.Errorf("the null request is written as %q", s)
	}
	if r, ok := impl.ReqGet("none"); !ok || r != (impl.Req{}) {
		t.Errorf("none is read as %v %v", r, ok)
	}
	for _, r := range append(allAsks(), badAsks()...) {
		if impl.ReqPut(r) == "none" {
			t.Errorf("%v is written as the null request", r)
		}
	}
}

func TestP1Examples(t *testing.T) {
	want := map[string]impl.Req{
		"1 1 join 0 0":   {Client: 1, Num: 1, Op: impl.OpJoin},
		"4 30 move -1 1": {Client: 4, Num: 30, Op: impl.OpMove, X: -1, Y: 1},
		"3 10 move 0 0":  {Client: 3, Num: 10, Op: impl.OpMove},
		"2 3 take 0 0":   {Client: 2, Num: 3, Op: impl.OpTake},
		"2 3 hit 2 0":    {Client: 2, Num: 3, Op: impl.OpHit, X: 2},
		"1 2 give 3 9":   {Client: 1, Num: 2, Op: impl.OpGive, X: 3, Y: 9},
	}
	for s, r := range want {
		if got := impl.ReqPut(r); got != s {
			t.Errorf("ReqPut(%v) is %q, want %q", r, got, s)
		}
		if got, ok := impl.ReqGet(s); !ok || got != r {
			t.Errorf("ReqGet(%q) is %v %v", s, got, ok)
		}
	}
}

func TestP1InvalidRequestsHaveNoText(t *testing.T) {
	far := []int{math.MinInt, math.MaxInt, 1 << 32, 1<<32 + 1, 1<<63 - 1}
	list := badAsks()
	for _, n := range far {
		list = append(list,
			impl.Req{Client: n, Num: 1, Op: 1}, impl.Req{Client: 1, Num: n, Op: 1}, impl.Req{Client: 1, Num: 1, Op: n},
			impl.Req{Client: 1, Num: 1, Op: 2, X: n}, impl.Req{Client: 1, Num: 1, Op: 2, Y: n},
			impl.Req{Client: 1, Num: 1, Op: 5, X: n, Y: 1}, impl.Req{Client: 1, Num: 1, Op: 5, X: 1, Y: n})
	}
	for _, r := range list {
		if impl.ReqOk(r) {
			t.Errorf("%v is valid", r)
		}
		if s := impl.ReqPut(r); s != "" {
			t.Errorf("%v is written as %q", r, s)
		}
	}
}

func TestP2NearTexts(t *testing.T) {
	texts := []string{"none", "1 1 join 0 0", "4 30 move -1 1", "1 20 move 0 -1", "3 9 take 0 0", "2 3 hit 2 0", "4 12 give 3 9"}
	valid := map[string]impl.Req{"none": {}}
	for _, r := range allAsks() {
		valid[textOf(r)] = r
	}
	for _, text := range texts {
		for _, s := range nearTexts(text) {
			r, ok := impl.ReqGet(s)
			want, known := valid[s]
			if ok != known || r != want {
				t.Fatalf("ReqGet(%q) is %v %v", s, r, ok)
			}
			if ok && impl.ReqPut(r) != s {
				t.Fatalf("ReqGet takes %q, which is written as %q", s, impl.ReqPut(r))
			}
		}
	}
}

func TestP2NoEncodings(t *testing.T) {
	bad := []string{
		"", " ", "    ", "\x00", "None", "NONE", "none ", " none", "none\n", "nonenone", "none 0 0", "0 0 none 0 0", "1 1 none 0 0",
		"0 1 join 0 0", "5 1 join 0 0", "-1 1 join 0 0", "1 0 join 0 0", "1 31 join 0 0", "1 -1 join 0 0",
		"1 1 join 1 0", "1 1 join 0 1", "1 1 take 1 0", "1 1 take 0 -1",
		"1 1 move 2 0", "1 1 move -2 0", "1 1 move 0 2", "1 1 move 0 -2", "1 1 move -0 0", "1 1 move 0 -0",
		"1 1 hit 0 0", "1 1 hit 5 0", "1 1 hit 2 1", "1 1 give 0 1", "1 1 give 5 1", "1 1 give 1 0", "1 1 give 1 10",
		"1 1 fly 0 0", "1 1  0 0", "1 1 Join 0 0", "1 1 1 0 0", "1 1 joinx 0 0", "1 1 joi 0 0",
		"01 1 join 0 0", "1 01 join 0 0", "1 1 join 00 0", "1 1 join 0 00", "+1 1 join 0 0", "1 +1 join 0 0",
		"1 1 move +1 0", "1 1 move 0 +1", "1 1 move 01 0", "1 1 move -01 0", "1 1 move --1 0", "- 1 move 0 0",
		"1 1 join 0", "1 1 join", "1 1 join 0 0 0", "1 1 join 0 0 ", " 1 1 join 0 0", "1  1 join 0 0", "1 1 join 0 0\n",
		"1\t1 join 0 0", "1,1,join,0,0", "1 1 join 0 0|", "1 1_0 join 0 0", "0x1 1 join 0 0", "1 1e0 join 0 0", "1. 1 join 0 0",
		"１ 1 join 0 0", "18446744073709551617 1 join 0 0", "1 4294967297 join 0 0", "1 99999999999999999999999 join 0 0",
		strings.Repeat("1 ", 1000), strings.Repeat("9", 1000) + " 1 join 0 0",
	}
	for _, s := range bad {
		if r, ok := impl.ReqGet(s); ok || r != (impl.Req{}) {
			t.Errorf("ReqGet(%q) is %v %v", s, r, ok)
		}
	}
}

func TestP3OneField(t *testing.T) {
	base := impl.Req{Client: 2, Num: 7, Op: 5, X: 3, Y: 4}
	steps := []func(r *impl.Req) *int{
		func(r *impl.Req) *int { return &r.Client },
		func(r *impl.Req) *int { return &r.Num },
		func(r *impl.Req) *int { return &r.Op },
		func(r *impl.Req) *int { return &r.X },
		func(r *impl.Req) *int { return &r.Y },
	}
	for i, field := range steps {
		for _, n := range []int{math.MinInt, -1, 0, 1, 9, 1000, math.MaxInt} {
			a, b := base, base
			*field(&b) = n
			if less := n < *field(&a); impl.ReqLess(b, a) != less || impl.ReqLess(a, b) == less {
				t.Errorf("field %d: %v and %v", i, a, b)
			}
			// Fields after this one do not count, however they differ.
			for _, later := range steps[i+1:] {
				*later(&a), *later(&b) = 5, -5
				if less := n < *field(&a); impl.ReqLess(b, a) != less || impl.ReqLess(a, b) == less {
					t.Errorf("field %d with later ones: %v and %v", i, a, b)
				}
				*later(&a), *later(&b) = -5, 5
				if less := n < *field(&a); impl.ReqLess(b, a) != less || impl.ReqLess(a, b) == less {
					t.Errorf("field %d with later ones: %v and %v", i, a, b)
				}
			}
		}
	}
	if impl.ReqLess(base, base) || impl.ReqLess(impl.Req{}, impl.Req{}) {
		t.Error("a request is ahead of itself")
	}
}

func TestP3TotalOrder(t *testing.T) {
	list := append(badAsks(), impl.Req{})
	c := &chance{state: 3}
	wide := []int{math.MinInt, -1, 0, 1, 2, math.MaxInt}
	for range 70 {
		n := func() int { return wide[c.below(len(wide))] }
		list = append(list, impl.Req{Client: n(), Num: n(), Op: n(), X: n(), Y: n()})
	}
	for i := range 5 {
		list = append(list, asksOf(1+i%clients, 1+i)[i*4:i*4+8]...)
	}
	for _, a := range list {
		for _, b := range list {
			less, more := impl.ReqLess(a, b), impl.ReqLess(b, a)
			if less && more || (a != b) != (less || more) {
				t.Fatalf("%v and %v: %v and %v", a, b, less, more)
			}
			for _, d := range list {
				if less && impl.ReqLess(b, d) && !impl.ReqLess(a, d) {
					t.Fatalf("not transitive: %v %v %v", a, b, d)
				}
			}
		}
	}
}

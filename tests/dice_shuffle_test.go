package tests

import (
	"math"
	"slices"
	"testing"

	"loop.example/wapentake/impl"
)

// numbersTo is the numbers from 1 up to n.
func numbersTo(n int) []int {
	return upTo(n+1, 1)[1:]
}

// shuffleExamples is what the numbers from 1 on are shuffled to, and shuffled back to.
func shuffleExamples() []struct {
	seed        int
	there, back []int
} {
	return []struct {
		seed        int
		there, back []int
	}{
		{0, nil, nil},
		{diceMax, nil, nil},
		{0, []int{1}, []int{1}},
		{1, []int{1}, []int{1}},
		{0, []int{2, 1}, []int{2, 1}},
		{77, []int{1, 2}, []int{1, 2}},
		{0, []int{2, 3, 1}, []int{3, 1, 2}},
		{1, []int{2, 1, 3}, []int{2, 1, 3}},
		{77, []int{2, 3, 1}, []int{3, 1, 2}},
		{1, []int{1, 4, 2, 3}, []int{1, 3, 4, 2}},
		{diceMax, []int{4, 1, 3, 2}, []int{2, 4, 3, 1}},
		{0, []int{3, 5, 2, 6, 4, 1}, []int{6, 3, 1, 5, 2, 4}},
		{1, []int{1, 6, 5, 2, 4, 3}, []int{1, 4, 6, 5, 3, 2}},
		{77, []int{5, 3, 6, 2, 1, 4}, []int{5, 4, 2, 6, 1, 3}},
		{diceMax, []int{4, 2, 1, 3, 5, 6}, []int{3, 2, 4, 1, 5, 6}},
		{0, []int{12, 6, 10, 5, 16, 9, 19, 4, 13, 14, 7, 3, 15, 2, 8, 11, 20, 17, 18, 1}, []int{20, 14, 12, 8, 4, 2, 11, 15, 6, 3, 16, 1, 9, 10, 13, 5, 18, 19, 7, 17}},
		{1, []int{15, 8, 18, 20, 4, 14, 7, 5, 11, 13, 17, 1, 10, 9, 3, 12, 6, 16, 2, 19}, []int{12, 19, 15, 5, 8, 17, 7, 2, 14, 13, 9, 16, 10, 6, 1, 18, 11, 3, 20, 4}},
		{77, []int{16, 5, 8, 6, 12, 2, 1, 9, 19, 11, 3, 10, 7, 4, 15, 20, 13, 14, 17, 18}, []int{7, 6, 11, 14, 2, 4, 13, 3, 8, 12, 10, 5, 17, 18, 15, 1, 19, 20, 9, 16}},
		{diceMax, []int{1, 3, 13, 15, 11, 7, 14, 16, 19, 4, 8, 5, 6, 9, 18, 20, 12, 17, 2, 10}, []int{1, 19, 2, 10, 12, 13, 6, 11, 14, 20, 5, 17, 3, 7, 4, 8, 18, 15, 9, 16}},
	}
}

func TestP71Examples(t *testing.T) {
	for _, x := range shuffleExamples() {
		if got := diceShuffle(t, numbersTo(len(x.there)), x.seed); !slices.Equal(got, x.there) {
			t.Errorf("DiceShuffle %d is %v, want %v", x.seed, got, x.there)
		}
	}
}

func TestP72Examples(t *testing.T) {
	for _, x := range shuffleExamples() {
		if got := diceBack(t, numbersTo(len(x.back)), x.seed); !slices.Equal(got, x.back) {
			t.Errorf("DiceBack %d is %v, want %v", x.seed, got, x.back)
		}
	}
}

// shuffledLists is lists of each length: different elements, equal ones, negative and very large ones.
func shuffledLists() [][]int {
	c := &chance{state: 71}
	lists := [][]int{nil, {}, {0}, {-1}, {math.MinInt}, {math.MaxInt, math.MinInt}, {math.MinInt, math.MaxInt}, {-1, -1, -1}, {0, 0, 1, 0}}
	for n := range sidesMax + 1 {
		large := upTo(n, math.MaxInt/sidesMax)
		var negative, equal, few []int
		for i := range n {
			negative = append(negative, -1-i)
			equal = append(equal, 7)
			few = append(few, []int{-1, 0, sidesMax + 1, 1 << 40, math.MinInt}[c.below(5)])
		}
		lists = append(lists, numbersTo(n), large, negative, equal, few)
	}
	return lists
}

func TestP71EachList(t *testing.T) {
	for _, list := range shuffledLists() {
		for _, seed := range someSeeds() {
			diceShuffle(t, list, seed)
		}
	}
}

func TestP72EachList(t *testing.T) {
	for _, list := range shuffledLists() {
		for _, seed := range someSeeds() {
			diceBack(t, list, seed)
		}
	}
}

// TestP71EachOrder sees that short lists are shuffled to each order, and each is shuffled back.
func TestP71EachOrder(t *testing.T) {
	for n, orders := range []int{1, 1, 2, 6, 24, 120} {
		there, back := map[[5]int]bool{}, map[[5]int]bool{}
		for seed := 0; seed < diceMax-1000003; seed += 1000003 {
			var a, b [5]int
			copy(a[:], diceShuffle(t, numbersTo(n), seed))
			copy(b[:], diceBack(t, numbersTo(n), seed))
			there[a], back[b] = true, true
		}
		if len(there) != orders || len(back) != orders {
			t.Errorf("%d elements are shuffled to %d orders, and back to %d", n, len(there), len(back))
		}
	}
}

// TestP71ShortestRoll has a list of two, for which there is one roll, and of one, for which there is none.
func TestP71ShortestRoll(t *testing.T) {
	for _, seed := range someSeeds() {
		want := []int{-5, 9}
		if n, _ := diceRoll(t, seed, 2); n == 0 {
			want = []int{9, -5}
		}
		if got := diceShuffle(t, []int{-5, 9}, seed); !slices.Equal(got, want) {
			t.Errorf("DiceShuffle %d is %v, want %v", seed, got, want)
		}
		if got := diceBack(t, []int{-5, 9}, seed); !slices.Equal(got, want) {
			t.Errorf("DiceBack %d is %v, want %v", seed, got, want)
		}
		if got := diceShuffle(t, []int{4}, seed); !slices.Equal(got, []int{4}) {
			t.Errorf("DiceShuffle %d of one is %v", seed, got)
		}
	}
}

// mustNotShuffle looks at both ways.
func mustNotShuffle(t *testing.T, name string, list []int, seed int) {
	t.Helper()
	if got := diceShuffle(t, list, seed); len(got) > 0 {
		t.Errorf("%s: DiceShuffle %d of %v is %v", name, seed, list, got)
	}
	if got := diceBack(t, list, seed); len(got) > 0 {
		t.Errorf("%s: DiceBack %d of %v is %v", name, seed, list, got)
	}
}

func TestP71P72NoSeeds(t *testing.T) {
	for _, seed := range noSeeds() {
		for _, n := range []int{0, 1, 2, 3, sidesMax, sidesMax + 1} {
			mustNotShuffle(t, "no seed", numbersTo(n), seed)
		}
	}
}

func TestP71P72TooMany(t *testing.T) {
	for _, n := range []int{sidesMax + 1, sidesMax + 2, 2 * sidesMax, 1000} {
		for _, seed := range someSeeds() {
			mustNotShuffle(t, "too many", numbersTo(n), seed)
			mustNotShuffle(t, "too many equal ones", make([]int, n), seed)
		}
	}
	for _, seed := range someSeeds() {
		if len(diceShuffle(t, numbersTo(sidesMax), seed)) != sidesMax || len(diceBack(t, numbersTo(sidesMax), seed)) != sidesMax {
			t.Errorf("%d elements are not shuffled by %d", sidesMax, seed)
		}
	}
}

// TestP71Again has the same result in the next call: no state is kept between calls.
func TestP71Again(t *testing.T) {
	for _, seed := range someSeeds() {
		first, back := impl.DiceShuffle(numbersTo(9), seed), impl.DiceBack(numbersTo(9), seed)
		impl.DiceShuffle(numbersTo(20), 5)
		if again := impl.DiceShuffle(numbersTo(9), seed); !slices.Equal(again, first) {
			t.Errorf("DiceShuffle %d is %v, and then %v", seed, first, again)
		}
		if again := impl.DiceBack(numbersTo(9), seed); !slices.Equal(again, back) {
			t.Errorf("DiceBack %d is %v, and then %v", seed, back, again)
		}
	}
}

package tests

import (
	"math"
	"slices"
	"testing"

	"loop.example/wapentake/impl"
)

// The limits of dice as the document gives them.
const (
	diceMax  = 2147483647
	sidesMax = 20
)

func isSeed(n int) bool {
	return n >= 0 && n <= diceMax
}

// noSeeds is numbers that are no seeds.
func noSeeds() []int {
	return []int{-1, -2, -diceMax, -diceMax - 1, diceMax + 1, diceMax + 2, 1 << 32, 1<<32 + 1, 1<<62 + 77, math.MinInt, math.MinInt + 1, math.MaxInt}
}

// noSides is numbers of sides that no die has.
func noSides() []int {
	return []int{0, -1, -6, -sidesMax, sidesMax + 1, sidesMax + 2, 65536, 1 << 32, 1<<32 + 6, math.MinInt, math.MaxInt}
}

// someSeeds is seeds at the limits, with a single bit, and any ones.
func someSeeds() []int {
	list := []int{0, 3, 77, 12345, 65535, 65537, diceMax - 2, diceMax - 1, diceMax}
	for bit := range 31 {
		list = append(list, 1<<bit, diceMax^1<<bit)
	}
	c := &chance{state: 16}
	for range 150 {
		list = append(list, c.below(diceMax+1))
	}
	return list
}

// diceNext is DiceNext, held against the model; so are the next ones with the functions of their names, and against the promises 68 to 72.
func diceNext(t *testing.T, seed int) int {
	t.Helper()
	got, want := impl.DiceNext(seed), -1
	if isSeed(seed) {
		want = modelNext(seed)
	}
	if got != want {
		t.Fatalf("DiceNext of %d is %d, want %d", seed, got, want)
	}
	if isSeed(seed) && (!isSeed(got) || modelBefore(got) != seed) {
		t.Fatalf("DiceNext of %d and of %d is %d", seed, modelBefore(got), got)
	}
	return got
}

func diceRoll(t *testing.T, seed, sides int) (int, int) {
	t.Helper()
	good := isSeed(seed) && sides >= 1 && sides <= sidesMax
	got, next := impl.DiceRoll(seed, sides)
	want, wantNext := -1, -1
	if good {
		want, wantNext = modelRoll(seed, sides)
	}
	if got != want || next != wantNext {
		t.Fatalf("DiceRoll %d %d is %d %d, want %d %d", seed, sides, got, next, want, wantNext)
	}
	if good && (got < 0 || got >= sides || next != impl.DiceNext(seed)) {
		t.Fatalf("DiceRoll %d %d is %d %d", seed, sides, got, next)
	}
	return got, next
}

func diceMix(t *testing.T, seeds []int) int {
	t.Helper()
	got := 0
	untouched(t, roomy(seeds, -7), func(seeds []int) { got = impl.DiceMix(seeds) })
	if want := modelMix(seeds); got != want {
		t.Fatalf("DiceMix of %v is %d, want %d", seeds, got, want)
	}
	checkP70(t, seeds, got)
	return got
}

func checkP70(t *testing.T, seeds []int, got int) {
	t.Helper()
	other := slices.Clone(seeds)
	slices.Reverse(other)
	for range 2 {
		if mix := impl.DiceMix(other); mix != got {
			t.Fatalf("DiceMix of %v is %d, and in another order %d", seeds, got, mix)
		}
		shuffle(&chance{state: 70}, other)
	}
	if mix := impl.DiceMix(append(other, seeds...)); mix != min(got, 0) {
		t.Fatalf("DiceMix of %v is %d, and twice %d", seeds, got, mix)
	}
}

// ownNumbers is a copy of a result, over which it then writes.
func ownNumbers(list []int) []int {
	kept := slices.Clone(list)
	overwrite(list, -9)
	return kept
}

func diceShuffle(t *testing.T, list []int, seed int) []int {
	t.Helper()
	var got, want []int
	untouched(t, roomy(list, -7), func(list []int) { got = ownNumbers(impl.DiceShuffle(list, seed)) })
	good := len(list) <= sidesMax && isSeed(seed)
	if good {
		want = modelShuffle(list, seed)
	}
	if !slices.Equal(got, want) {
		t.Fatalf("DiceShuffle %d of %v\nis   %v\nwant %v", seed, list, got, want)
	}
	if good {
		mustHaveSame(t, list, got)
		if back := impl.DiceBack(got, seed); !slices.Equal(back, list) {
			t.Fatalf("DiceShuffle %d of %v is %v, and back %v", seed, list, got, back)
		}
	}
	return got
}

func diceBack(t *testing.T, list []int, seed int) []int {
	t.Helper()
	var got, want []int
	untouched(t, roomy(list, -7), func(list []int) { got = ownNumbers(impl.DiceBack(list, seed)) })
	good := len(list) <= sidesMax && isSeed(seed)
	if good {
		want = modelBack(list, seed)
	}
	if !slices.Equal(got, want) {
		t.Fatalf("DiceBack %d of %v\nis   %v\nwant %v", seed, list, got, want)
	}
	if good {
		mustHaveSame(t, list, got)
		if again := impl.DiceShuffle(got, seed); !slices.Equal(again, list) {
			t.Fatalf("DiceBack %d of %v is %v, and shuffled %v", seed, list, got, again)
		}
	}
	return got
}

func mustHaveSame(t *testing.T, a, b []int) {
	t.Helper()
	if !slices.Equal(slices.Sorted(slices.Values(a)), slices.Sorted(slices.Values(b))) {
		t.Fatalf("%v is no permutation of %v", b, a)
	}
}

package tests

import (
	"slices"
	"testing"

	"loop.example/wapentake/impl"
)

func TestLimitsOfDice(t *testing.T) {
	if impl.DiceMax != diceMax || impl.SidesMax != sidesMax {
		t.Errorf("DiceMax is %d, SidesMax is %d", impl.DiceMax, impl.SidesMax)
	}
}

func TestP68Examples(t *testing.T) {
	for seed, want := range map[int]int{
		0: 12345, 1: 1103527590, 2: 59559187, 77: 1218823938, 12345: 1406932606, 65536: 1315778617, 1 << 30: 1073754169,
		diceMax - 1: 2087949151, diceMax: 1043980748, 2088216195: 0, 230538014: diceMax,
	} {
		if got := diceNext(t, seed); got != want {
			t.Errorf("DiceNext of %d is %d, want %d", seed, got, want)
		}
	}
}

func TestP68NoSeeds(t *testing.T) {
	for _, seed := range noSeeds() {
		if got := diceNext(t, seed); got != -1 {
			t.Errorf("DiceNext of %d is %d", seed, got)
		}
	}
}

// TestP68Different has seeds of each range, of which no two may have the same next one.
func TestP68Different(t *testing.T) {
	seeds := map[int]int{}
	look := func(seed int) {
		next := diceNext(t, seed)
		if other, there := seeds[next]; there && other != seed {
			t.Fatalf("DiceNext of %d and of %d is %d", seed, other, next)
		}
		seeds[next] = seed
	}
	for i := range 20000 {
		look(i)
		look(diceMax - i)
		look(1<<30 + i)
		look(i * 100003)
		look(i << 16)
	}
	for _, seed := range someSeeds() {
		look(seed)
		for bit := range 31 {
			look(seed ^ 1<<bit)
		}
	}
}

// TestP68Chain goes from each number to the next one, so that a result is a seed.
func TestP68Chain(t *testing.T) {
	for _, seed := range []int{0, 1, diceMax} {
		for range 20000 {
			seed = diceNext(t, seed)
		}
	}
}

// TestP69Chain has the first numbers of a known generator, as what is rolled by a die of each number of sides.
func TestP69Chain(t *testing.T) {
	for sides := 1; sides <= sidesMax; sides++ {
		seed := 1
		for _, n := range []int{16838, 5758, 10113, 17515, 31051, 5627, 23010, 7419, 16212, 4086} {
			got, next := diceRoll(t, seed, sides)
			if got != n%sides {
				t.Errorf("DiceRoll %d %d is %d, want %d", seed, sides, got, n%sides)
			}
			seed = next
		}
	}
}

func TestP69EachSides(t *testing.T) {
	for seed, want := range map[int][]int{
		0:       make([]int, sidesMax),
		1:       {0, 0, 2, 2, 3, 2, 3, 6, 8, 8, 8, 2, 3, 10, 8, 6, 8, 8, 4, 18},
		77:      {0, 1, 0, 1, 2, 3, 5, 5, 3, 7, 7, 9, 7, 5, 12, 5, 16, 3, 15, 17},
		diceMax: {0, 1, 2, 1, 4, 5, 4, 1, 8, 9, 1, 5, 4, 11, 14, 9, 0, 17, 7, 9},
	} {
		for i, n := range want {
			if got, next := diceRoll(t, seed, i+1); got != n || next != modelNext(seed) {
				t.Errorf("DiceRoll %d %d is %d %d, want %d", seed, i+1, got, next, n)
			}
		}
	}
}

func TestP69AnySeed(t *testing.T) {
	rolled := map[[2]int]bool{}
	for _, seed := range someSeeds() {
		for sides := 1; sides <= sidesMax; sides++ {
			got, _ := diceRoll(t, seed, sides)
			rolled[[2]int{sides, got}] = true
		}
	}
	if len(rolled) != sidesMax*(sidesMax+1)/2 {
		t.Errorf("%d of the sides are rolled", len(rolled))
	}
}

func mustNotRoll(t *testing.T, seed, sides int) {
	t.Helper()
	if got, next := diceRoll(t, seed, sides); got != -1 || next != -1 {
		t.Errorf("DiceRoll %d %d is %d %d", seed, sides, got, next)
	}
}

func TestP69NoDice(t *testing.T) {
	for _, seed := range noSeeds() {
		for sides := 1; sides <= sidesMax; sides++ {
			mustNotRoll(t, seed, sides)
		}
		for _, sides := range noSides() {
			mustNotRoll(t, seed, sides)
		}
	}
	for _, seed := range someSeeds() {
		for _, sides := range noSides() {
			mustNotRoll(t, seed, sides)
		}
	}
}

func mustMix(t *testing.T, want int, seeds ...int) {
	t.Helper()
	if got := diceMix(t, seeds); got != want {
		t.Errorf("DiceMix of %v is %d, want %d", seeds, got, want)
	}
}

func TestP70Examples(t *testing.T) {
	mustMix(t, 0)
	if got := diceMix(t, []int{}); got != 0 {
		t.Errorf("DiceMix of no seeds is %d", got)
	}
	mustMix(t, 0, 0)
	mustMix(t, 6, 5, 3)
	mustMix(t, 0, 5, 3, 6)
	mustMix(t, 5, 5, 5, 5)
	mustMix(t, diceMax-1, diceMax, 1)
	mustMix(t, 0, diceMax, diceMax)
	mustMix(t, diceMax, 1<<30, 1<<30-1)
	mustMix(t, 1<<30, diceMax, 0, 1<<30-1)
	mustMix(t, 7, 1, 2, 4, 8, 8)
}

func TestP70OneAndTwo(t *testing.T) {
	seeds := someSeeds()
	for i, seed := range seeds {
		mustMix(t, seed, seed)
		mustMix(t, 0, seed, seed)
		mustMix(t, seed, seed, 0)
		for _, other := range seeds[:i] {
			if mix := diceMix(t, []int{seed, other}); diceMix(t, []int{mix, other}) != seed {
				t.Errorf("DiceMix of %d and %d is %d", seed, other, mix)
			}
		}
	}
}

func TestP70Many(t *testing.T) {
	seeds := someSeeds()
	for n := range seeds {
		diceMix(t, seeds[:n])
	}
	mustMix(t, 0, slices.Repeat([]int{diceMax, 77}, 10000)...)
	mustMix(t, diceMax^77, slices.Repeat([]int{diceMax, 77}, 9999)...)
}

// TestP70NoSeeds has one among seeds, two that would mix to a seed, and a seed twice beside it.
func TestP70NoSeeds(t *testing.T) {
	for _, bad := range noSeeds() {
		for _, n := range []int{0, 1, 2, 5, 100} {
			seeds := someSeeds()[:n]
			for at := range n + 1 {
				list := slices.Insert(slices.Clone(seeds), at, bad)
				mustMix(t, -1, list...)
				mustMix(t, -1, append(list, bad)...)
				mustMix(t, -1, append([]int{bad}, list...)...)
			}
		}
		for _, other := range noSeeds() {
			mustMix(t, -1, bad, other)
			mustMix(t, -1, other, 5, bad)
		}
	}
}

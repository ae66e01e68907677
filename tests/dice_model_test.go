package tests

import "slices"

// The rules of the chapter on dice told a second time. All functions but modelMix take valid arguments.

// modelNext lets a number of 32 bits wrap around, and leaves out its first bit.
func modelNext(seed int) int {
	return int((uint32(seed)*1103515245 + 12345) & diceMax)
}

// modelBefore is the only seed of which a number is the next one: 1857678181 is the inverse of the factor.
func modelBefore(next int) int {
	return int((uint32(next) - 12345) * 1857678181 & diceMax)
}

func modelRoll(seed, sides int) (int, int) {
	next := modelNext(seed)
	return next >> 16 % sides, next
}

// modelMix counts how often each bit is set.
func modelMix(seeds []int) int {
	if slices.ContainsFunc(seeds, func(n int) bool { return n < 0 || n > diceMax }) {
		return -1
	}
	mix := 0
	for bit := range 31 {
		set := 0
		for _, seed := range seeds {
			set += seed >> bit & 1
		}
		mix |= set % 2 << bit
	}
	return mix
}

// modelShuffle takes the elements from the end of the result on out of a shrinking list, whose last element fills the gap.
func modelShuffle(list []int, seed int) []int {
	rest := slices.Clone(list)
	var got []int
	for len(rest) > 1 {
		var at int
		at, seed = modelRoll(seed, len(rest))
		got = append(got, rest[at])
		rest[at] = rest[len(rest)-1]
		rest = rest[:len(rest)-1]
	}
	got = append(got, rest...)
	slices.Reverse(got)
	return got
}

// modelBack puts them back into a growing list.
func modelBack(list []int, seed int) []int {
	places := make([]int, len(list))
	for many := len(list); many > 1; many-- {
		places[many-1], seed = modelRoll(seed, many)
	}
	var rest []int
	for i, x := range list {
		rest = append(rest, x)
		rest[i], rest[places[i]] = rest[places[i]], x
	}
	return rest
}

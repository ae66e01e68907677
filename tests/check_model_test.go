package tests

import (
	"slices"

	"loop.example/wapentake/impl"
)

// The rules of the chapter on state checksums told a second time.

func modelChecksOk(list []impl.Check) bool {
	var there [keepers][lastSeq + 1]bool
	for _, c := range list {
		if c.From < 0 || c.From >= keepers || c.Seq < 0 || c.Seq > lastSeq || c.Sum < 0 || c.Sum >= 1<<32 || there[c.From][c.Seq] {
			return false
		}
		there[c.From][c.Seq] = true
	}
	return true
}

// modelCheckOf asks the program only for the new game and how a state is written.
func modelCheckOf(from int, list []impl.Req, seq int) (impl.Check, bool) {
	if from < 0 || from >= keepers || len(list) > folds || seq < 0 || seq > lastSeq || seq > len(list) || !modelAllOkOrNull(list[:seq]) {
		return impl.Check{}, false
	}
	m := modelOf(impl.GameNew())
	for _, r := range list[:seq] {
		m.play(r)
	}
	return checksum(from, seq, sumOf(impl.GamePut(m.game()))), true
}

func modelCheckAdd(list []impl.Check, c impl.Check) ([]impl.Check, bool) {
	if !modelChecksOk(list) {
		return nil, false
	}
	if more := append(slices.Clone(list), c); modelChecksOk(more) {
		return more, true
	}
	return list, false
}

// modelStable looks for three equal sums in a row, from the last sequence number down.
func modelStable(list []impl.Check) (int, int, bool) {
	for seq := lastSeq; seq >= 0 && modelChecksOk(list); seq-- {
		var sums []int
		for _, c := range list {
			if c.Seq == seq {
				sums = append(sums, c.Sum)
			}
		}
		slices.Sort(sums)
		for i := 2; i < len(sums); i++ {
			if sums[i-2] == sums[i] {
				return seq, sums[i], true
			}
		}
	}
	return 0, 0, false
}

func modelCut(list []impl.Check, seq int) []impl.Check {
	if !modelChecksOk(list) {
		return nil
	}
	return slices.DeleteFunc(slices.Clone(list), func(c impl.Check) bool { return c.Seq <= seq })
}

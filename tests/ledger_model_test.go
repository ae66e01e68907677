package tests

import (
	"fmt"
	"hash/crc32"

	"loop.example/wapentake/impl"
)

func modelOkOrNull(r impl.Req) bool {
	return r == impl.Req{} || modelReqOk(r)
}

func modelAllOkOrNull(list []impl.Req) bool {
	for _, r := range list {
		if !modelOkOrNull(r) {
			return false
		}
	}
	return true
}

func sumOf(text string) int {
	return int(crc32.ChecksumIEEE([]byte(text)))
}

func chainText(before, position int, text string) string {
	return fmt.Sprintf("%d|%d|%s", before, position, text)
}

// modelEntry is the correct entry at that position, which starts at 1, behind one with that Sum.
func modelEntry(before, position int, r impl.Req) impl.Entry {
	return impl.Entry{Req: r, Sum: sumOf(chainText(before, position, textOf(r)))}
}

func lastSum(list []impl.Entry) int {
	if len(list) == 0 {
		return 0
	}
	return list[len(list)-1].Sum
}

// modelChain is correct entries, also more of them than a ledger may have.
func modelChain(list []impl.Req) []impl.Entry {
	var rows []impl.Entry
	before := 0
	for i, r := range list {
		rows = append(rows, modelEntry(before, i+1, r))
		before = rows[i].Sum
	}
	return rows
}

func modelFar(list []impl.Entry) int {
	before := 0
	for i, e := range list {
		if i == folds || !modelOkOrNull(e.Req) || e != modelEntry(before, i+1, e.Req) {
			return i
		}
		before = e.Sum
	}
	return len(list)
}

func modelMeet(a, b []impl.Entry) int {
	a, b = a[:modelFar(a)], b[:modelFar(b)]
	n := 0
	for n < len(a) && n < len(b) && a[n] == b[n] {
		n++
	}
	return n
}

func modelLedgerText(list []impl.Entry) string {
	text := ""
	if modelFar(list) < len(list) {
		return text
	}
	for _, e := range list {
		text += fmt.Sprintf("%d %s\n", e.Sum, textOf(e.Req))
	}
	return text
}

package impl

import (
	"cmp"
	"strconv"
	"strings"
)

// What players do, and limits.
const (
	OpJoin    = 1
	OpMove    = 2
	OpTake    = 3
	OpHit     = 4
	OpGive    = 5
	ClientMax = 4
	NumMax    = 30
	GiveMax   = 9
)

// Req is what a player asks for: who, its number, and what is to be done.
type Req struct {
	Client int
	Num    int
	Op     int
	X      int
	Y      int
}

// nullWord is the text of the null request.
const nullWord = "none"

// deed is what a player may ask for: the word for it, and which X and Y it takes.
type deed interface {
	word() string
	fits(x int, y int) bool
}

type joinDeed struct{}

func (joinDeed) word() string { return "join" }

func (joinDeed) fits(x int, y int) bool { return x == 0 && y == 0 }

type moveDeed struct{}

func (moveDeed) word() string { return "move" }

func (moveDeed) fits(x int, y int) bool { return within(x, -1, 1) && within(y, -1, 1) }

type takeDeed struct{}

func (takeDeed) word() string { return "take" }

func (takeDeed) fits(x int, y int) bool { return x == 0 && y == 0 }

type hitDeed struct{}

func (hitDeed) word() string { return "hit" }

func (hitDeed) fits(x int, y int) bool { return within(x, 1, ClientMax) && y == 0 }

type giveDeed struct{}

func (giveDeed) word() string { return "give" }

func (giveDeed) fits(x int, y int) bool { return within(x, 1, ClientMax) && within(y, 1, GiveMax) }

func deedOf(op int) (deed, bool) {
	switch op {
	case OpJoin:
		return joinDeed{}, true
	case OpMove:
		return moveDeed{}, true
	case OpTake:
		return takeDeed{}, true
	case OpHit:
		return hitDeed{}, true
	case OpGive:
		return giveDeed{}, true
	}
	return nil, false
}

// opOf is the operation with that word, or 0, which no valid request has.
func opOf(word string) int {
	for op := OpJoin; op <= OpGive; op++ {
		if d, ok := deedOf(op); ok && d.word() == word {
			return op
		}
	}
	return 0
}

func within(n int, low int, high int) bool {
	return low <= n && n <= high
}

func isNull(r Req) bool {
	return r == Req{}
}

func okOrNull(r Req) bool {
	return ReqOk(r) || isNull(r)
}

// ReqOk says whether an ask is ok.
func ReqOk(r Req) bool {
	d, ok := deedOf(r.Op)
	return ok && within(r.Client, 1, ClientMax) && within(r.Num, 1, NumMax) && d.fits(r.X, r.Y)
}

// ReqPut writes an ask.
func ReqPut(r Req) string {
	if isNull(r) {
		return nullWord
	}
	d, ok := deedOf(r.Op)
	if !ok || !ReqOk(r) {
		return ""
	}
	words := []string{
		strconv.Itoa(r.Client), strconv.Itoa(r.Num), d.word(), strconv.Itoa(r.X), strconv.Itoa(r.Y),
	}
	return strings.Join(words, " ")
}

// ReqGet reads an ask.
func ReqGet(s string) (Req, bool) {
	if s == nullWord {
		return Req{}, true
	}
	words := strings.Split(s, " ")
	if len(words) != 5 {
		return Req{}, false
	}
	n, ok := readNumbers([]string{words[0], words[1], words[3], words[4]})
	if !ok {
		return Req{}, false
	}
	r := Req{Client: n[0], Num: n[1], Op: opOf(words[2]), X: n[2], Y: n[3]}
	// readNumbers takes signs and leading zeros that ReqPut never writes.
	if ReqPut(r) != s {
		return Req{}, false
	}
	return r, true
}

// readNumbers is lenient about signs and leading zeros: its callers compare what they read, written again, with the text.
func readNumbers(words []string) ([]int, bool) {
	list := make([]int, 0, len(words))
	for _, w := range words {
		n, err := strconv.Atoi(w)
		if err != nil {
			return nil, false
		}
		list = append(list, n)
	}
	return list, true
}

// ReqLess says whether an ask is ahead of another one.
func ReqLess(a Req, b Req) bool {
	order := cmp.Or(
		cmp.Compare(a.Client, b.Client),
		cmp.Compare(a.Num, b.Num),
		cmp.Compare(a.Op, b.Op),
		cmp.Compare(a.X, b.X),
		cmp.Compare(a.Y, b.Y),
	)
	return order < 0
}

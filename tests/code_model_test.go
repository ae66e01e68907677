package tests

import (
	"fmt"
	"regexp"
	"strings"

	"loop.example/wapentake/impl"
)

// The rules of the chapter on the encoding of messages told a second time, with one pattern for each line.

var msgWords = []string{"", "ask", "offer", "yes", "sure", "turn", "lead"}

// rawReq is the text of any request: one that has no word for its operation gets one that is none.
func rawReq(r impl.Req) string {
	if r == (impl.Req{}) || r.Op >= 1 && r.Op <= len(opRanges()) {
		return textOf(r)
	}
	return fmt.Sprintf("%d %d op%d %d %d", r.Client, r.Num, r.Op, r.X, r.Y)
}

func rawClaims(list []impl.Claim) string {
	text := ""
	for _, c := range list {
		text += fmt.Sprintf("claim %d %d %s\n", c.Seq, c.View, rawReq(c.Req))
	}
	return text
}

// rawMsg is the text of any message of a kind, valid or not.
func rawMsg(m impl.Msg) string {
	text := fmt.Sprintf("%s %d %d %d %s\n", msgWords[m.Kind], m.From, m.View, m.Seq, rawReq(m.Req)) + rawClaims(m.Claims)
	for _, v := range m.Votes {
		text += fmt.Sprintf("vote %d\n", v.From) + rawClaims(v.Claims)
	}
	return text
}

func modelMsgPut(m impl.Msg) string {
	if !modelMsgOk(m) {
		return ""
	}
	return rawMsg(m)
}

// All numbers of a valid message but those in requests have one digit.
var (
	modelHeadLine  = regexp.MustCompile(`^(ask|offer|yes|sure|turn|lead) ([0-9]) ([0-9]) ([0-9]) (.*)$`)
	modelClaimLine = regexp.MustCompile(`^claim ([0-9]) ([0-9]) (.*)$`)
	modelVoteLine  = regexp.MustCompile(`^vote ([0-9])$`)
)

func digit(s string) int {
	return int(s[0] - '0')
}

func modelMsgGet(s string) (impl.Msg, bool) {
	body, ok := strings.CutSuffix(s, "\n")
	lines := strings.Split(body, "\n")
	g := modelHeadLine.FindStringSubmatch(lines[0])
	if !ok || g == nil {
		return impl.Msg{}, false
	}
	kind := 0
	for msgWords[kind] != g[1] {
		kind++
	}
	r, ok := modelReqTexts()[g[5]]
	m := impl.Msg{Kind: kind, From: digit(g[2]), View: digit(g[3]), Seq: digit(g[4]), Req: r}
	for _, line := range lines[1:] {
		ok = ok && modelMore(&m, line)
	}
	if !ok || !modelMsgOk(m) {
		return impl.Msg{}, false
	}
	return m, true
}

func modelMore(m *impl.Msg, line string) bool {
	if g := modelVoteLine.FindStringSubmatch(line); g != nil {
		m.Votes = append(m.Votes, vote(digit(g[1])))
		return true
	}
	g := modelClaimLine.FindStringSubmatch(line)
	if g == nil {
		return false
	}
	r, ok := modelReqTexts()[g[3]]
	c := claim(digit(g[1]), digit(g[2]), r)
	if n := len(m.Votes); n > 0 {
		m.Votes[n-1].Claims = append(m.Votes[n-1].Claims, c)
	} else {
		m.Claims = append(m.Claims, c)
	}
	return ok
}

package house_test

import (
	"fmt"
	"strconv"
	"strings"
	"testing"

	"voussoir/api"
	"voussoir/exact"
	"voussoir/house"
)

// errorName returns the name of an error that orders may return.
func errorName(e api.Errno) string {
	names := map[api.Errno]string{
		api.OK: "OK", api.ErrNil: "ErrNil", api.ErrArg: "ErrArg", api.ErrRange: "ErrRange", api.ErrForm: "ErrForm", api.ErrLong: "ErrLong",
		api.ErrTwice: "ErrTwice", api.ErrNone: "ErrNone", api.ErrFull: "ErrFull", api.ErrState: "ErrState",
		api.ErrNoTrain: "ErrNoTrain", api.ErrWeak: "ErrWeak", api.ErrNoWay: "ErrNoWay", api.ErrRole: "ErrRole",
	}
	if name, ok := names[e]; ok {
		return name
	}
	return "error " + strconv.Itoa(int(e))
}

// answerText returns an answer as scripts have it: its text, or the name of its
// error.
func answerText(a api.Answer) string {
	switch {
	case a.Err == api.OK && a.Text == "":
		return "nothing"
	case a.Err == api.OK:
		return a.Text
	case a.Text != "":
		return errorName(a.Err) + " with the text " + a.Text
	}
	return errorName(a.Err)
}

// tell returns the answer of a house to an order, as scripts have it.
func tell(h *house.House, order string) string { return answerText(h.Order(order)) }

// play gives a house the orders of a script, one on each line. Behind => stands
// the answer, or the name of an error; without it the answer is ok.
func play(t *testing.T, h *house.House, script string) {
	t.Helper()
	for _, line := range strings.Split(script, "\n") {
		order, want, ok := strings.Cut(strings.TrimLeft(line, "\t"), " => ")
		if order == "" {
			continue
		}
		if !ok {
			want = "ok"
		}
		if got := tell(h, order); got != want {
			t.Errorf("%s\nanswers %s\nnot     %s", short(order), short(got), short(want))
		}
	}
}

// short returns the beginning of a text.
func short(s string) string {
	if len(s) > 300 {
		return s[:300] + " ... (" + strconv.Itoa(len(s)) + " bytes)"
	}
	return s
}

// played returns a house behind the orders of a script.
func played(t *testing.T, scripts ...string) *house.House {
	t.Helper()
	h := house.New()
	for _, s := range scripts {
		play(t, h, s)
	}
	return h
}

// repeat returns a script with a line for each number from 0 on, in which # is
// replaced by the number.
func repeat(n int, line string) string {
	var s strings.Builder
	for i := range n {
		s.WriteString(strings.ReplaceAll(line, "#", strconv.Itoa(i)) + "\n")
	}
	return s.String()
}

// The scripts with which the document's examples begin: two places, and a road
// between them over a bridge; and a crack of this bridge.
const (
	oldBridge = `
		owner place a
		owner place b
		owner bridge old 10 20 5 0:1,30:5/4
		owner member old 0@0..0,5@1..1,10@0..0 2..3 0 17
		owner road a b 5 old
	`
	crackedWeld = `
		owner law 0:1..2
		owner element weld old 0 1..2 5
	`
	truck = "10..10+4,10..10+0"
)

// forms returns the orders with the names of their forms, as the chapter has
// them. ORDER is a question.
func forms() []string {
	return []string{
		"owner place NAME", "owner road A B LENGTH BRIDGES", "owner bridge NAME WIND WATER TREMOR IMPACT", "owner member NAME BANDS DEAD LOW HIGH",
		"owner bear NAME MEMBER LOW HIGH", "owner law STEPS", "owner element NAME BRIDGE LAW SIZE CRITICAL", "owner fix NAME SIZE",
		"operator weather WIND WATER TREMOR", "operator tick", "operator inspect NAME FINDINGS",
		"police site LINE", "police strain AT LOW HIGH", "police accuse PATTERNS AXLE GROSS VEHICLE",
		"haulier ask A B LOADS SLOW FAST", "haulier drive N",
		"anyone bridge NAME", "anyone rate NAME LOADS SLOW FAST", "anyone post NAME LOADS", "anyone due", "anyone alarms", "anyone state", "anyone log N", "anyone then N ORDER",
	}
}

// longNumber returns an integer with so many digits, the last of which are n.
func longNumber(digits, n int) string { return fmt.Sprintf("7%0*d", digits-1, n) }

// fitting returns words that have a form, and wrong ones that have not.
func fitting(form string) (fit, wrong []string) {
	s60, s61 := longNumber(60, 1), longNumber(61, 1)
	switch form {
	case "NAME", "BRIDGE", "A", "B":
		return []string{"a", "z9_", "q_1_", "a0", "abcdefghijklmnopqrst"},
			[]string{"A", "aB", "1a", "_a", "a-b", "a.b", "a/b", "é", "aé", "a\xff", "\xff", "a\t", "a\n", "a\x00", "a,b", "-", "a`", "a{", "a:", "abcdefghijklmnopqrstu", "a\u0301"}
	case "WIND", "WATER", "TREMOR", "LENGTH", "SLOW", "FAST", "LAW", "MEMBER", "VEHICLE", "N":
		return []string{"0", "1", "9", "10", "999999999"},
			[]string{"00", "01", "-1", "-0", "+1", "1000000000", "0000000001", "99999999999999999999", "1.0", "1/2", "a", "1a", "0x1", "1_0", "\uff11", "1,2", "-", "1\n", "1e3"}
	case "LOW", "HIGH", "AT", "AXLE", "CRITICAL":
		return []string{"0", "1", "-7", "22/7", "-1/3", s60, "-" + s60[:59], "1/" + s60[:58]},
			[]string{"4/2", "-0", "+1", "7/1", "007", "1/0", "0/1", "1/-2", "1.5", "a", "-", "1/", "/2", "--1", "1e3", "1..2", "½", "1,2", "1\n", s61, "-" + s60, "1/" + s60[:59]}
	case "SIZE", "DEAD":
		return []string{"1..2", "-1..1", "0..0", "1/3..1/2", "1/2..3", "-2..-1", s60 + ".." + s60},
			[]string{"2..1", "1", "1..", "..1", "..", "1...2", "1.2", "1..2..3", "1/2..1/3", "-1..-2", "1..-1", "4/2..3", "1..4/2", "1:2", "-", "0.." + s61, "-" + s60 + "..0"}
	}
	return fittingLists(form)
}

// fittingLists does the same for lists.
func fittingLists(form string) (fit, wrong []string) {
	s61 := longNumber(61, 1)
	switch form {
	case "BANDS":
		return []string{"0@0..0", "0@0..0,5@1..2,10@0..0", "-1/2@-1..1"},
			[]string{"0@0", "0", "@0..0", "0@", "@", "0@0..0,", ",0@0..0", "0@0..0,,1@0..0", "0@0..0;1@0..0", "0@2..1", "0:0..0", "0@0@0..0", "-", "4/2@0..0", s61 + "@0..0"}
	case "LINE":
		return []string{"0@0", "0@0,5@1,10@0", "-1/2@-1/3"}, []string{"0@0..0", "0", "0@", "@0", "0@0,", ",0@0", "-", "0+0", "0@0@0", "0@0;5@0", "0@0,4/2@0", "0@" + s61}
	case "LOADS":
		return []string{"1..2+3", "-1..2+0,0..0+-1", "1/3..1/2+1/7"},
			[]string{"1+3", "1..2", "1..2+", "+3", "2..1+0", "1..2+3,", ",1..2+3", "-", "1..2@3", "1..2+3+4", "1..2++3", "1..2-3", "1..2+3;1..2+3", "1..2+" + s61}
	case "IMPACT":
		return []string{"0:1", "0:-1", "5:1/2", "999999999:1", "0:1,0:1"}, []string{"-1:1", "0", "0:", ":1", "1/2:1", "0:1,", ",0:1", "0:1..2", "0@1", "1000000000:1", "00:1", "-", "0:1:1", "0:4/2", "+0:1"}
	case "STEPS":
		return []string{"0:1..2", "-1:-2..-1", "0:1..2,1/2:3..4"}, []string{"0:1", "0:2..1", "0", "0:", ":1..2", "0:1..2,", ",0:1..2", "0@1..2", "-", "0:1..2;1:1..2", "0:0:1..2"}
	case "FINDINGS":
		return []string{"-", "1..2", "1..2,3..4", "-1..-1/2"}, []string{"1", "1..2,", ",1..2", "-,1..2", "1..2,-", "2..1", "1..2;3..4", "--", "none"}
	case "GROSS":
		return []string{"1", "1,2", "-1,1/2,0"}, []string{"-", "1,", ",1", "1,,2", "1..2", "1;2", "4/2", "1,+2", s61}
	case "BRIDGES":
		return []string{"-", "a", "a,b", "a,a"}, []string{"a,", ",a", "a,,b", "A", "a,-", "-,a", "a;b", "--", "abcdefghijklmnopqrstu"}
	case "PATTERNS":
		return []string{"-|1|0..1", "1,2|3|0..1", "-|1|0..1;1|1,1|0..1/2", "-1|0|-1..1"},
			[]string{"|1|0..1", "-||0..1", "-|1|", "-|1", "-", "-|1|1..0", "-|1|0..1;", ";-|1|0..1", "-|-|0..1", "1|2|3", "-|1|0..1|0", "-|-1|0..1", "-|1/2|0..1", "-|1|0..1,-|1|0..1", "1;2|3|0..1", "-,1|2|0..1", "1|1,|0..1", "-|00|0..1", "-|1000000000|0..1"}
	case "ORDER":
		return []string{"state", "due", "alarms", "bridge a", "log 1", "post a 1..2+0", "rate a 1..2+0 0 1"},
			[]string{"then 0 state", "then", "anyone state", "anyone", "place a", "tick", "drive 1", "owner tick", "state 1", "bridge", "bridge A", "bridge a b", "due now", "nothing", "log -1", "log", "State"}
	}
	panic("no form " + form)
}

// orderWith returns an order with fitting words, but another one in the place
// of one of its forms. The place 0 is the first one behind the name.
func orderWith(forms string, place int, word string) string {
	list := strings.Fields(forms)
	for i, form := range list[2:] {
		if i == place {
			list[2+i] = word
			continue
		}
		fit, _ := fitting(form)
		list[2+i] = fit[0]
	}
	return strings.Join(list, " ")
}

// num returns the number of a text; it panics if there is none.
func num(s string) exact.Q {
	x, e := exact.Read(s)
	if e != api.OK {
		panic("not a number: " + s)
	}
	return x
}

// integer returns the integer of a text.
func integer(s string) int {
	n, e := strconv.Atoi(s)
	if e != nil {
		panic(e)
	}
	return n
}

// asked returns what a house answers to all kinds of questions.
func asked(h *house.House) string {
	var s strings.Builder
	ask := func(question string) { s.WriteString(question + ": " + tell(h, question) + "\n") }
	for _, q := range []string{"state", "due", "alarms"} {
		ask("anyone " + q)
	}
	for _, name := range []string{"old", "new", "x", "y"} {
		ask("anyone bridge " + name)
		ask("anyone rate " + name + " " + truck + " 0 50")
		ask("anyone post " + name + " " + truck)
	}
	state := strings.Fields(tell(h, "anyone state"))
	for n := range integer(state[6]) + 2 {
		ask("anyone log " + strconv.Itoa(n))
	}
	return s.String()
}

// playInVain plays a script whose orders change nothing.
func playInVain(t *testing.T, h *house.House, script string) {
	t.Helper()
	before := asked(h)
	play(t, h, script)
	if after := asked(h); after != before {
		t.Errorf("%s\nbecame\n%s", before, after)
	}
}

package house_test

import (
	"math/rand"
	"strconv"
	"strings"
	"testing"

	"voussoir/house"
)

// counts counts kinds of cases.
type counts map[string]int

// check checks that there were cases enough of each kind.
func (c counts) check(t *testing.T, least int, kinds ...string) {
	t.Helper()
	for _, k := range kinds {
		if c[k] < least {
			t.Errorf("only %d cases of %s", c[k], k)
		}
	}
}

// pick returns one of some texts at random.
func pick(r *rand.Rand, list ...string) string { return list[r.Intn(len(list))] }

// someWhole returns the text of an integer at random.
func someWhole(r *rand.Rand, most int) string { return strconv.Itoa(r.Intn(most + 1)) }

// someNumber returns the text of a number at random.
func someNumber(r *rand.Rand, low, high int) string {
	n := strconv.Itoa(low + r.Intn(high-low+1))
	if r.Intn(4) == 0 {
		return num(n).Plus(num(pick(r, "1/2", "1/3", "-1/4"))).Text()
	}
	return n
}

// someSpan returns the text of a span at random.
func someSpan(r *rand.Rand, low, high int) string {
	a, b := someNumber(r, low, high), someNumber(r, low, high)
	if num(a).Cmp(num(b)) > 0 {
		a, b = b, a
	}
	return a + ".." + b
}

// someList returns the text of a list at random.
func someList(r *rand.Rand, least, most int, mark string, some func() string) string {
	var list []string
	for range least + r.Intn(most-least+1) {
		list = append(list, some())
	}
	if len(list) == 0 {
		return "-"
	}
	return strings.Join(list, mark)
}

// someLine returns the text of a line at random, whose values have a form.
func someLine(r *rand.Rand, zero string, some func() string) string {
	text, x := "0@"+zero, 0
	for range r.Intn(3) {
		x += 1 + r.Intn(4)
		text += "," + strconv.Itoa(x) + "@" + some()
	}
	return text + "," + strconv.Itoa(x+1+r.Intn(3)) + "@" + zero
}

// someLoads returns the text of loads at random.
func someLoads(r *rand.Rand) string {
	var text strings.Builder
	for range r.Intn(3) {
		text.WriteString(someSpan(r, 1, 9) + "+" + someWhole(r, 4) + ",")
	}
	return text.String() + someSpan(r, 1, 9) + "+" + pick(r, "0", "0", "0", "0", "0", "0", "0", "1")
}

// someWord returns a word at random that has a form: one that orders often can
// be carried out with.
func someWord(r *rand.Rand, form string) string {
	switch form {
	case "A", "B":
		return pick(r, "a", "b", "c", "d")
	case "BRIDGE":
		return pick(r, "u", "v", "w", "x")
	case "WIND", "WATER", "TREMOR":
		return pick(r, "0", "1", "2", "3", "3", "3", "1000001")
	case "LENGTH":
		return pick(r, "0", "1", "2", "3", "1000001")
	case "LAW", "MEMBER":
		return someWhole(r, 2)
	case "SLOW":
		return someWhole(r, 40)
	case "FAST":
		return strconv.Itoa(20 + r.Intn(30))
	case "VEHICLE":
		return pick(r, "0", "0", "0", "1", "2", "6")
	case "LOW":
		return someNumber(r, -30, 1)
	case "HIGH":
		return someNumber(r, 1, 40)
	case "AT":
		return someNumber(r, -1, 9)
	case "AXLE", "CRITICAL":
		return someNumber(r, 0, 12)
	case "SIZE":
		return someSpan(r, 0, 6)
	case "DEAD":
		return someSpan(r, -2, 2)
	}
	return someWords(r, form)
}

// someWords returns a list at random that has a form.
func someWords(r *rand.Rand, form string) string {
	switch form {
	case "BANDS":
		return someLine(r, "0..0", func() string { return someSpan(r, -1, 2) })
	case "LINE":
		return someLine(r, "0", func() string { return someNumber(r, 0, 2) })
	case "LOADS":
		return someLoads(r)
	case "IMPACT":
		return pick(r, "0:1", "0:1,30:5/4", "0:2,10:1,40:3/2", "0:1,30:0", "1:1")
	case "STEPS":
		return pick(r, "0:0..1", "0:1..2", "0:0..1/2,2:1..1", "0:0..0", "1:0..1")
	case "FINDINGS":
		return someList(r, 0, 4, ",", func() string { return someSpan(r, 0, 7) })
	case "GROSS":
		if r.Intn(8) == 0 {
			return "1,2,3"
		}
		return someList(r, 6, 6, ",", func() string { return someNumber(r, 1, 20) })
	case "BRIDGES":
		return someList(r, 0, 3, ",", func() string { return pick(r, "u", "v", "w", "x") })
	case "PATTERNS":
		return someList(r, 1, 3, ";", func() string {
			return pick(r, "-|1|", "1|2|", "1,2|3|", "2|1,1|", "1,1|1,2|", "1|1|") + someSpan(r, 0, 20)
		})
	}
	panic("no form " + form)
}

// someName returns a name at random for an order.
func someName(r *rand.Rand, order string) string {
	switch order {
	case "owner place":
		return pick(r, "a", "b", "c", "d")
	case "owner element", "owner fix", "operator inspect":
		return pick(r, "e", "f", "g_1", "h")
	}
	return pick(r, "u", "v", "w", "x")
}

// someOrder returns an order at random that has its form. The number is that of
// the orders in the log, more or less.
func someOrder(r *rand.Rand, number int) string {
	f := forms()
	words := strings.Fields(f[r.Intn(len(f))])
	if r.Intn(3) == 0 { // these are what the others need
		words = strings.Fields(pick(r, f[1], f[2], f[3], f[3], f[4], f[6], f[7], f[14], f[14], f[15], f[13], f[12]))
	}
	order := words[0] + " " + words[1]
	for i, form := range words[2:] {
		switch {
		case form == "NAME":
			words[2+i] = someName(r, order)
		case form == "N" && order == "haulier drive":
			words[2+i] = someWhole(r, 9)
		case form == "N":
			words[2+i] = someWhole(r, number+2)
		case form == "ORDER":
			words[2+i] = someQuestion(r, number)
		default:
			words[2+i] = someWord(r, form)
		}
	}
	return strings.Join(words, " ")
}

// someQuestion returns an order of anyone, without this word.
func someQuestion(r *rand.Rand, number int) string {
	for {
		if s, ok := strings.CutPrefix(someOrder(r, number), "anyone "); ok && !strings.HasPrefix(s, "then") {
			return s
		}
	}
}

// spoiled returns an order that probably has not its form any more.
func spoiled(r *rand.Rand, order string) string {
	at := r.Intn(len(order))
	words := strings.Split(order, " ")
	n := r.Intn(len(words))
	switch r.Intn(6) {
	case 0:
		return order[:at] + order[at+1:]
	case 1:
		return order[:at] + pick(r, " ", "0", "-", ",", "a", ".", "|", ";", "@", "+", ":", "/", "A", "\xff", "1") + order[at:]
	case 2:
		return strings.Join(append(words[:n:n], words[n+1:]...), " ")
	case 3:
		return strings.Join(append(append(words[:n:n], words[r.Intn(len(words))]), words[n:]...), " ")
	case 4:
		m := r.Intn(len(words))
		words[n], words[m] = words[m], words[n]
		return strings.Join(words, " ")
	}
	words[0] = pick(r, "owner", "operator", "police", "haulier", "anyone")
	return strings.Join(words, " ")
}

// someStart returns orders at random with which there is something to ask for.
func someStart(r *rand.Rand) []string {
	var list []string
	for _, name := range []string{"a", "b", "c", "d"} {
		list = append(list, "owner place "+name)
	}
	for _, name := range []string{"u", "v", "w"} {
		list = append(list, "owner bridge "+name+" 2 3 3 "+pick(r, "0:1", "0:1,30:5/4"), "owner member "+name+" "+someWord(r, "BANDS")+" "+someWord(r, "DEAD")+" -30 30")
	}
	for range 6 {
		list = append(list, "owner road "+someWord(r, "A")+" "+someWord(r, "B")+" "+someWhole(r, 3)+" "+someWord(r, "BRIDGES"))
	}
	return append(list, "owner law 0:0..1", "owner law 0:0..1/2,2:1..1", "owner element e u 0 0..2 "+someWhole(r, 9), "owner element f v 1 1..2 "+someWhole(r, 9))
}

// TestP12Some gives many orders to houses, and compares the answers with those
// of the model.
func TestP12Some(t *testing.T) {
	r := rand.New(rand.NewSource(12))
	seen := counts{}
	for range 250 {
		h, m := house.New(), newModel()
		var start []string
		if r.Intn(4) > 0 {
			start = someStart(r)
		}
		for i := range 150 {
			order := someOrder(r, len(m.log))
			if i < len(start) {
				order = start[i]
			} else if r.Intn(8) == 0 {
				order = spoiled(r, order)
			}
			want := answerText(m.order(order))
			if got := tell(h, order); got != want {
				t.Fatalf("%s\nbehind\n%s\nanswers %s\nnot     %s", order, strings.Join(m.log, "\n"), got, want)
			}
			seen.see(order, want)
		}
	}
	seen.check(t, 20, "accused", "not accused", "go", "stop", "open", "shut", "ok", "ErrArg", "ErrForm", "ErrRole", "ErrNone", "ErrTwice", "ErrState", "ErrNoTrain", "ErrNoWay", "ErrWeak", "ErrRange", "doubt")
	seen.check(t, 20, "a permit", "a route", "a long route", "a rating", "unlimited", "a speed", "due", "an alarm", "then ok", "then ErrNone", "nothing")
}

// see counts what kind of answer an order got.
func (c counts) see(order, answer string) {
	words, told := strings.Fields(order), strings.Fields(answer)
	c[answer]++
	if told[0] == "stop" {
		c["stop"]++
	}
	if last := told[len(told)-1]; last != answer {
		c[last]++
	}
	if strings.HasPrefix(answer, "Err") {
		if len(words) > 3 && words[1] == "then" {
			c["then "+answer]++
		}
		return
	}
	switch words[1] {
	case "ask":
		c["a permit"]++
		if len(told) > 1 {
			c["a route"]++
		}
		if len(told) > 2 {
			c["a long route"]++
		}
	case "rate":
		c["a rating"]++
	case "post":
		c["a speed"]++
	case "due":
		if len(told) > 1 {
			c["due"]++
		}
	case "alarms":
		if answer != "nothing" {
			c["an alarm"]++
		}
	case "then":
		c["then ok"]++
	}
}

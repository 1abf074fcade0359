package house_test

import (
	"math/rand"
	"strconv"
	"strings"
	"testing"

	"voussoir/api"
	"voussoir/house"
)

// TestP1Garbage gives orders that make no sense: all of them are answered, as
// the model answers them.
func TestP1Garbage(t *testing.T) {
	r := rand.New(rand.NewSource(1))
	var words []string
	for _, f := range forms() {
		for _, word := range strings.Fields(f) {
			if strings.ToLower(word) == word {
				words = append(words, word)
				continue
			}
			fit, wrong := fitting(word)
			words = append(append(append(words, fit...), wrong...), word)
		}
	}
	h, m := played(t, oldBridge, crackedWeld, passage), newModel()
	for _, order := range logOf(h) {
		m.order(order)
	}
	for range 20000 {
		order := pick(r, words...)
		for range r.Intn(7) {
			order += " " + pick(r, words...)
		}
		if r.Intn(3) > 0 { // most of them go beyond the first word
			f := strings.Fields(pick(r, forms()...))
			order = strings.Join(f[:2], " ") + " " + order
		}
		want := answerText(m.order(order))
		if got := tell(h, order); got != want {
			t.Fatalf("%q answers %s, not %s", order, got, want)
		}
	}
	for range 3000 {
		order := make([]byte, r.Intn(60))
		for i := range order {
			order[i] = byte(r.Intn(256))
		}
		if got := tell(h, string(order)); got != "ErrForm" {
			t.Errorf("%q answers %s", order, got)
		}
	}
}

// greatLine returns as many points as a line may have, each with values as a
// function returns them, and 0 at both ends.
func greatLine(values func(i int) string, zero string) string {
	line := "0@" + zero
	for i := range api.MaxPoints - 2 {
		line += "," + strconv.Itoa(i+1) + "@" + values(i)
	}
	return line + "," + strconv.Itoa(api.MaxPoints-1) + "@" + zero
}

// TestP1Greatest fills a house with as much as there may be of most things.
func TestP1Greatest(t *testing.T) {
	bands := greatLine(func(i int) string { return "-1/" + strconv.Itoa(i+2) + ".." + strconv.Itoa(i%7) }, "0..0")
	steps, loads := "0:0..1/3", ""
	for i := range api.MaxGrowth - 1 {
		steps += "," + strconv.Itoa(i+1) + ":1/97..1"
	}
	for i := range api.MaxAxles {
		loads += strconv.Itoa(i%3) + ".." + strconv.Itoa(i%5+2) + "+" + strconv.Itoa(min(i%4, api.MaxAxles-1-i)) + ","
	}
	loads = strings.TrimSuffix(loads, ",")
	script := repeat(20, "owner place p#") + repeat(19, "owner bridge b# 10 20 5 0:1,30:5/4")
	for i := range 19 {
		script += repeat(4, "owner member b"+strconv.Itoa(i)+" "+bands+" -3..3 -999 999")
	}
	for i := range 40 {
		script += "owner road p" + strconv.Itoa(i%19) + " p" + strconv.Itoa(i%19+1) + " " + strconv.Itoa(i) + " " + strings.Repeat("b"+strconv.Itoa(i%19)+",", 4) + "b" + strconv.Itoa(i%19) + "\n"
	}
	script += repeat(8, "owner law "+steps) + repeat(60, "owner element e# b3 1 0..# 1000")
	h := played(t, script, `
		anyone state => 20 40 19 60 0 0 223
		haulier ask p0 p19 `+loads+` 0 300 => 1 0 1 2 3 4 5 6 7 8 9 10 11 12 13 14 15 16 17 18
		haulier drive 1 => go
	`, repeat(60, "operator tick"), repeat(50, "police site "+greatLine(strconv.Itoa, "0")), repeat(20, "police strain # 0 100"), `
		police accuse 1,2,3,4,5|2,2,2|0..100;1,2,3,4,5|1,1,1,1,1,1|0..50;-|1|0..50 20 9,18,30,40,50,60 1 => not accused
		anyone state => 20 40 19 60 1 60 356
	`)
	if due := h.Order("anyone due"); due.Err != api.OK || strings.Count(due.Text, ";") != 59 {
		t.Error(answerText(due))
	}
	play(t, h, repeat(44, "operator weather 11 0 0")+`
		haulier drive 1 => ErrFull
		anyone bridge b3 => 5 4 shut
		anyone then 356 bridge b3 => 5 4 open
		anyone then 225 state => 20 40 19 60 1 0 225
	`)
}

// TestR10Houses checks that houses do not know of each other, and answer the
// same orders alike.
func TestR10Houses(t *testing.T) {
	r := rand.New(rand.NewSource(10))
	houses := []*house.House{house.New(), house.New(), house.New()}
	orders := make([][]string, len(houses))
	answers := make([][]string, len(houses))
	for i := range houses {
		orders[i] = someStart(r)
		for range 80 {
			orders[i] = append(orders[i], someOrder(r, len(orders[i])))
		}
	}
	for n := range orders[0] {
		for i, h := range houses {
			answers[i] = append(answers[i], tell(h, orders[i][n]))
		}
	}
	for i := range houses {
		for n, a := range house.Play(orders[i]) {
			if got := answerText(a); got != answers[i][n] {
				t.Errorf("%s answers %s, and again %s", orders[i][n], answers[i][n], got)
			}
		}
	}
}

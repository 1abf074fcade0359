package house_test

import (
	"math/rand"
	"slices"
	"strconv"
	"strings"
	"testing"

	"voussoir/api"
	"voussoir/exact"
	"voussoir/house"
	"voussoir/moving"
	"voussoir/permit"
)

// someHouse returns a house, and the model of it, behind orders at random.
// Behind each of them it calls a function with the order and its answer.
func someHouse(r *rand.Rand, orders int, behind func(h *house.House, m *model, order, answer string)) (*house.House, *model) {
	h, m := house.New(), newModel()
	start := someStart(r)
	for i := range orders {
		order := someOrder(r, len(m.log))
		if i < len(start) {
			order = start[i]
		} else if r.Intn(10) == 0 {
			order = spoiled(r, order)
		}
		m.order(order)
		behind(h, m, order, tell(h, order))
	}
	return h, m
}

// between returns a number of a span at random, often one of its ends.
func between(r *rand.Rand, s exact.Span) exact.Q {
	part, _ := exact.Of(int64(r.Intn(5)), 4)
	return s.Low.Plus(s.High.Minus(s.Low).Times(part))
}

// TestP12_10Asked checks that what was just permitted may begin.
func TestP12_10Asked(t *testing.T) {
	r := rand.New(rand.NewSource(1210))
	seen := counts{}
	for range 150 {
		someHouse(r, 120, func(h *house.House, m *model, order, answer string) {
			if !strings.HasPrefix(order, "haulier ask") || strings.HasPrefix(answer, "Err") {
				return
			}
			number, roads, _ := strings.Cut(answer, " ")
			if got := tell(h, "haulier drive "+number); got != "go" {
				t.Errorf("%s\nbehind\n%s\nanswers %s, but then %s", order, strings.Join(m.log, "\n"), answer, got)
			}
			m.order("haulier drive " + number)
			if roads != "" {
				seen["a route"]++
			}
		})
	}
	seen.check(t, 100, "a route")
}

// TestP12_10Driven lets transports drive that may: whatever the bridge is, and
// whatever they weigh, wherever they are, no member bears more than it can.
func TestP12_10Driven(t *testing.T) {
	r := rand.New(rand.NewSource(12101))
	seen := counts{}
	for range 60 {
		someHouse(r, 120, func(h *house.House, m *model, _, _ string) {
			number := r.Intn(len(m.permits) + 1)
			order := "haulier drive " + strconv.Itoa(number)
			m.order(order)
			if answer := tell(h, order); number == 0 || answer != "go" {
				seen[strings.Split(answer, " ")[0]]++
				return
			}
			p := m.permits[number-1]
			for _, road := range p.roads {
				for _, name := range m.roads[road].bridges {
					if open := tell(h, "anyone bridge "+name); !strings.HasSuffix(open, " open") {
						t.Errorf("%s over %s, which is %s", order, name, open)
					}
					seen["a bridge"]++
					cross(t, r, *m.bridges[name], p.transport)
				}
			}
		})
	}
	seen.check(t, 50, "a bridge", "stop")
}

// cross checks some passages of a transport over a bridge.
func cross(t *testing.T, r *rand.Rand, b permit.Bridge, v permit.Transport) {
	t.Helper()
	for _, m := range b.Members {
		var line []moving.Point
		for _, band := range m.Bands {
			line = append(line, moving.Point{X: band.X, Y: between(r, band.Y)})
		}
		var vehicle []moving.Axle
		for _, l := range v.Loads {
			vehicle = append(vehicle, moving.Axle{Load: between(r, l.Load), Gap: l.Gap})
		}
		speed := v.From + r.Intn(v.To-v.From+1)
		factor, _ := moving.Factors(b.Impact, speed, speed)
		for at := range int64(30) {
			effect, e := moving.Effect(line, vehicle, exact.Int(at))
			sum := between(r, m.Dead).Plus(effect.Times(factor.Low))
			if e != api.OK || sum.Cmp(m.Low) < 0 || sum.Cmp(m.High) > 0 {
				t.Fatalf("%s at %d, not from %s to %s", sum.Text(), at, m.Low.Text(), m.High.Text())
			}
		}
	}
}

// TestP12_11Watched checks that each element is in one of both lists at all
// times, and that a bridge with an element among the alarms is shut.
func TestP12_11Watched(t *testing.T) {
	r := rand.New(rand.NewSource(1211))
	seen := counts{}
	for range 80 {
		of := map[string]string{}
		someHouse(r, 100, func(h *house.House, _ *model, order, answer string) {
			words := strings.Fields(order)
			if strings.HasPrefix(order, "owner element ") && answer == "ok" {
				of[words[2]] = words[3]
			}
			var due, alarms []string
			for part := range strings.SplitSeq(h.Order("anyone due").Text, "; ") {
				name, _, _ := strings.Cut(part, " ")
				due = append(due, name)
			}
			alarms = strings.Split(h.Order("anyone alarms").Text, "; ")
			for name, bridge := range of {
				if slices.Contains(due, name) == slices.Contains(alarms, name) {
					t.Errorf("%s: due %v, alarms %v", name, due, alarms)
				}
				if slices.Contains(alarms, name) {
					seen["an alarm"]++
					if shut := tell(h, "anyone bridge "+bridge); !strings.HasSuffix(shut, " shut") {
						t.Errorf("%s of %s, which is %s", name, bridge, shut)
					}
				} else {
					seen["due"]++
				}
			}
			if all := append(strings.Fields(strings.Join(due, " ")), strings.Fields(strings.Join(alarms, " "))...); len(all) != len(of) {
				t.Errorf("%v, not %v", all, of)
			}
		})
	}
	seen.check(t, 500, "an alarm", "due")
}

// logOf returns the orders of the log of a house.
func logOf(h *house.House) []string {
	var list []string
	for n := 1; ; n++ {
		a := h.Order("anyone log " + strconv.Itoa(n))
		if a.Err != api.OK {
			return list
		}
		_, order, _ := strings.Cut(a.Text, " ")
		list = append(list, order)
	}
}

// TestP12_12Replayed gives the orders of a log to a new house: they have the
// same answers, and so have all questions behind them.
func TestP12_12Replayed(t *testing.T) {
	r := rand.New(rand.NewSource(1212))
	for range 60 {
		var answers []string
		h, _ := someHouse(r, 120, func(_ *house.House, m *model, _, answer string) {
			if len(m.log) > len(answers) {
				answers = append(answers, answer)
			}
		})
		again := house.New()
		for i, order := range logOf(h) {
			if got := tell(again, order); got != answers[i] {
				t.Fatalf("%s answers %s, and again %s", order, answers[i], got)
			}
		}
		if first, second := asked(h), asked(again); first != second {
			t.Fatalf("%s\nand again\n%s", first, second)
		}
		if len(answers) < 20 {
			t.Errorf("only %d orders", len(answers))
		}
	}
}

// TestP12_12Then asks about the past of a house: the answers are those of a
// house that was given the beginning of its log.
func TestP12_12Then(t *testing.T) {
	r := rand.New(rand.NewSource(12121))
	for range 25 {
		h, _ := someHouse(r, 120, func(*house.House, *model, string, string) {})
		past := house.New()
		list := logOf(h)
		for n := range len(list) + 1 {
			for range 5 {
				question := someQuestion(r, n)
				want, got := tell(past, "anyone "+question), tell(h, "anyone then "+strconv.Itoa(n)+" "+question)
				if got != want {
					t.Fatalf("%s answers %s, and behind %d orders %s", question, want, n, got)
				}
			}
			if n < len(list) {
				past.Order(list[n])
			}
		}
	}
}

// TestP12_13Roles checks that an order that returns an error is not in the log
// and changes nothing, whatever role it is given by.
func TestP12_13Roles(t *testing.T) {
	r := rand.New(rand.NewSource(1213))
	seen := counts{}
	for range 12 {
		var before string
		var log []string
		someHouse(r, 110, func(h *house.House, m *model, order, answer string) {
			after := asked(h)
			isLogged := !strings.HasPrefix(order, "anyone") && !strings.HasPrefix(answer, "Err")
			if isLogged {
				log = append(log, order)
			} else if after != before && before != "" {
				t.Errorf("%s answers %s\n%s\nbecame\n%s", order, answer, before, after)
			}
			before = after
			if got := logOf(h); !slices.Equal(got, log) {
				t.Errorf("%s answers %s, and the log is %q, not %q", order, answer, got, log)
			}
			seen[map[bool]string{true: "logged", false: "not logged"}[isLogged]]++
			role, rest, _ := strings.Cut(order, " ")
			for _, other := range []string{"owner", "operator", "police", "haulier"} {
				if isLogged && other != role {
					if got := tell(h, other+" "+rest); got != "ErrRole" {
						t.Errorf("%s answers %s", other+" "+rest, got)
					}
				}
			}
			if got := asked(h); got != after {
				t.Errorf("%s\nbecame\n%s", after, got)
			}
		})
	}
	seen.check(t, 200, "logged", "not logged")
}

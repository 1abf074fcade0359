package house

import (
	"slices"
	"strings"

	"voussoir/api"
)

// anyone is the role whose orders are questions: they change nothing, and are
// not in the log.
const anyone = "anyone"

// roles are those who may give orders.
var roles = [...]string{"owner", "operator", "police", "haulier", anyone}

// order is what a role may order: the forms of its words, by the names that the
// document has for them, and what it does with a copy of the state of a house.
// If it returns an error, this copy is forgotten, and so is the answer.
type order struct {
	forms string
	do    func(s *state, w words) (string, api.Errno)
}

// deed is an order with its words.
type deed func(s *state) (string, api.Errno)

// orders returns all orders by their roles and names.
func orders() map[string]order {
	return map[string]order{
		"owner place":      {"NAME", (*state).addPlace},
		"owner road":       {"A B LENGTH BRIDGES", (*state).addRoad},
		"owner bridge":     {"NAME WIND WATER TREMOR IMPACT", (*state).addBridge},
		"owner member":     {"NAME BANDS DEAD LOW HIGH", (*state).addMember},
		"owner bear":       {"NAME MEMBER LOW HIGH", (*state).changeMember},
		"owner law":        {"STEPS", (*state).addLaw},
		"owner element":    {"NAME BRIDGE LAW SIZE CRITICAL", (*state).addElement},
		"owner fix":        {"NAME SIZE", (*state).fix},
		"operator weather": {"WIND WATER TREMOR", (*state).tellWeather},
		"operator tick":    {"", (*state).tick},
		"operator inspect": {"NAME FINDINGS", (*state).inspect},
		"police site":      {"LINE", (*state).beginPassage},
		"police strain":    {"AT LOW HIGH", (*state).addReading},
		"police accuse":    {"PATTERNS AXLE GROSS VEHICLE", (*state).accuse},
		"haulier ask":      {"A B LOADS SLOW FAST", (*state).ask},
		"haulier drive":    {"N", (*state).drive},
		"anyone bridge":    {"NAME", (*state).describe},
		"anyone rate":      {"NAME LOADS SLOW FAST", (*state).rate},
		"anyone post":      {"NAME LOADS", (*state).post},
		"anyone due":       {"", (*state).due},
		"anyone alarms":    {"", (*state).alarms},
		"anyone state":     {"", (*state).count},
		"anyone log":       {"N", (*state).recall},
		"anyone then":      {"N ORDER", (*state).askPast},
	}
}

// read returns the role of an order, and what it does.
func read(line string) (role string, do deed, e api.Errno) {
	if len(line) > api.MaxOrder {
		return "", nil, api.ErrLong
	}
	texts := strings.Split(line, " ")
	if len(texts) < 2 || slices.Contains(texts, "") || !isRole(texts[0]) {
		return "", nil, api.ErrForm
	}
	all := orders()
	o, ok := all[texts[0]+" "+texts[1]]
	if !ok && isOrder(all, texts[1]) {
		return "", nil, api.ErrRole
	}
	w, fit := wordsOf(strings.Fields(o.forms), texts[2:])
	if !ok || !fit {
		return "", nil, api.ErrForm
	}
	return texts[0], func(s *state) (string, api.Errno) { return o.do(s, w) }, api.OK
}

// isRole reports whether a word is a role.
func isRole(word string) bool {
	for _, role := range roles {
		if word == role {
			return true
		}
	}
	return false
}

// isOrder reports whether a word is the name of an order of some role.
func isOrder(all map[string]order, word string) bool {
	for _, role := range roles {
		if _, ok := all[role+" "+word]; ok {
			return true
		}
	}
	return false
}

// readQuestion reads an order of anyone, without this word and other than then.
func readQuestion(text string) (deed, bool) {
	if name, _, _ := strings.Cut(text, " "); name == "then" {
		return nil, false
	}
	_, do, e := read(anyone + " " + text)
	return do, e == api.OK
}

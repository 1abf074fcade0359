package house_test

import (
	"math/big"
	"regexp"
	"slices"
	"strconv"
	"strings"

	"voussoir/api"
	"voussoir/crack"
	"voussoir/exact"
	"voussoir/moving"
	"voussoir/permit"
	"voussoir/weigh"
)

// The forms of words, as regular expressions. They let through numbers that are
// not in lowest terms or too long, and spans with exchanged ends.
const (
	nameForm    = `[a-z][a-z0-9_]{0,19}`
	wholeForm   = `(?:0|[1-9][0-9]{0,8})`
	numberForm  = `(?:0|-?[1-9][0-9]*(?:/[1-9][0-9]*)?)`
	spanForm    = numberForm + `\.\.` + numberForm
	patternForm = `(?:-|` + numberForm + `(?:,` + numberForm + `)*)\|` + wholeForm + `(?:,` + wholeForm + `)*\|` + spanForm
)

// listForm returns the form of elements with a mark between two of them.
func listForm(element, mark string) string { return element + `(?:` + mark + element + `)*` }

// wordForm returns the regular expression of a form that the chapter names.
func wordForm(form string) string {
	fit := map[string]string{
		"BANDS": listForm(numberForm+`@`+spanForm, `,`), "LINE": listForm(numberForm+`@`+numberForm, `,`), "LOADS": listForm(spanForm+`\+`+numberForm, `,`),
		"IMPACT": listForm(wholeForm+`:`+numberForm, `,`), "STEPS": listForm(numberForm+`:`+spanForm, `,`), "FINDINGS": `(?:-|` + listForm(spanForm, `,`) + `)`,
		"GROSS": listForm(numberForm, `,`), "BRIDGES": `(?:-|` + listForm(nameForm, `,`) + `)`, "PATTERNS": listForm(patternForm, `;`),
	}
	switch form {
	case "NAME", "BRIDGE", "A", "B":
		return nameForm
	case "LOW", "HIGH", "AT", "AXLE", "CRITICAL":
		return numberForm
	case "SIZE", "DEAD":
		return spanForm
	case "ORDER":
		return `.*`
	}
	if s, ok := fit[form]; ok {
		return s
	}
	return wholeForm
}

// expressions are the regular expressions that were compiled.
var expressions = map[string]*regexp.Regexp{}

// compiled returns a regular expression.
func compiled(text string) *regexp.Regexp {
	if expressions[text] == nil {
		expressions[text] = regexp.MustCompile(text)
	}
	return expressions[text]
}

// hasForm reports whether words have a form each.
func hasForm(words, forms []string) bool {
	if len(words) != len(forms) {
		return false
	}
	for i, w := range words {
		if !compiled(`^(?:`+wordForm(forms[i])+`)$`).MatchString(w) || forms[i] != "ORDER" && !hasNumbers(w) {
			return false
		}
	}
	return true
}

// hasNumbers reports whether the numbers and the spans of a word are such.
func hasNumbers(word string) bool {
	read := func(s string) *big.Rat {
		x, _ := new(big.Rat).SetString(s)
		return x
	}
	for _, s := range compiled(`(?:^|[^a-z0-9_/-])(-?[0-9][0-9/]*)`).FindAllStringSubmatch(word, -1) {
		if x := read(s[1]); x == nil || x.RatString() != s[1] || len(s[1]) > 60 {
			return false
		}
	}
	for _, s := range compiled(spanForm).FindAllString(word, -1) {
		low, high, _ := strings.Cut(s, "..")
		if read(low).Cmp(read(high)) > 0 {
			return false
		}
	}
	return true
}

// model is a house as the chapter's words say it, without a thought for how long
// it takes: to be asked about the past, it begins anew.
type model struct {
	places   []string
	roads    []modelRoad
	bridges  map[string]*permit.Bridge
	versions map[string]int
	laws     [][]crack.Step
	watch    *crack.Watch
	of       map[string]string // the bridge of an element
	weather  api.Weather
	period   int
	sites    []weigh.Site
	permits  []modelPermit
	log      []string
	periods  []int // in which the orders of the log were given
}

// modelRoad is a road with names.
type modelRoad struct {
	a, b    string
	length  int
	bridges []string
}

// modelPermit is a permit.
type modelPermit struct {
	transport permit.Transport
	roads     []int
}

// newModel returns a house with nothing.
func newModel() *model {
	return &model{bridges: map[string]*permit.Bridge{}, versions: map[string]int{}, of: map[string]string{}}
}

// order carries out an order.
func (m *model) order(line string) api.Answer {
	words := strings.Split(line, " ")
	if len(line) > 4000 {
		return api.Answer{Err: api.ErrLong}
	}
	isRole := slices.Contains([]string{"owner", "operator", "police", "haulier", "anyone"}, words[0])
	if slices.Contains(words, "") || len(words) < 2 || !isRole {
		return api.Answer{Err: api.ErrForm}
	}
	e := api.ErrForm
	for _, f := range forms() {
		form := strings.Fields(f)
		if form[1] != words[1] {
			continue
		}
		if form[0] != words[0] {
			e = max(e, api.ErrRole)
			continue
		}
		given := words[2:]
		if words[1] == "then" && len(given) > 2 {
			given = []string{given[0], strings.Join(given[1:], " ")}
		}
		if !hasForm(given, form[2:]) {
			return api.Answer{Err: api.ErrForm}
		}
		return m.checked(line, words[0], words[1], given)
	}
	return api.Answer{Err: e}
}

// checked carries out an order that has its form.
func (m *model) checked(line, role, name string, w []string) api.Answer {
	if role == "anyone" {
		text, e := m.question(name, w)
		return answer(text, e)
	}
	if len(m.log) == 400 {
		return api.Answer{Err: api.ErrFull}
	}
	period := m.period
	change := map[string]func(string, []string) (string, api.Errno){"owner": m.owner, "operator": m.operator, "police": m.police, "haulier": m.haulier}[role]
	text, e := change(name, w)
	if e == api.OK {
		m.log, m.periods = append(m.log, line), append(m.periods, period)
	}
	return answer(text, e)
}

// answer returns an answer without a text if there is an error.
func answer(text string, e api.Errno) api.Answer {
	if e != api.OK {
		return api.Answer{Err: e}
	}
	return api.Answer{Text: text}
}

// unless returns the first error whose condition is not true; behind conditions
// stand their errors.
func unless(list ...any) api.Errno {
	for i := 0; i < len(list); i += 2 {
		if !list[i].(bool) {
			return list[i+1].(api.Errno)
		}
	}
	return api.OK
}

// has reports whether there is a bridge.
func (m *model) has(name string) bool { return m.bridges[name] != nil }

// owner carries out an order of owners.
func (m *model) owner(name string, w []string) (string, api.Errno) {
	var e api.Errno
	switch name {
	case "place":
		e = unless(!slices.Contains(m.places, w[0]), api.ErrTwice, len(m.places) < 20, api.ErrFull)
		if e == api.OK {
			m.places = append(m.places, w[0])
		}
	case "road":
		r := modelRoad{w[0], w[1], integer(w[2]), listOf(w[3])}
		lacks := func(bridge string) bool { return !m.has(bridge) }
		e = unless(slices.Contains(m.places, r.a) && slices.Contains(m.places, r.b) && !slices.ContainsFunc(r.bridges, lacks), api.ErrNone,
			r.a != r.b && r.length <= 1000000 && len(r.bridges) <= 5, api.ErrArg, len(m.roads) < 40, api.ErrFull)
		if e == api.OK {
			m.roads = append(m.roads, r)
		}
	case "bridge":
		b := permit.Bridge{Impact: impactsOf(w[4]), Most: weatherOf(w[1:4])}
		e = unless(!m.has(w[0]), api.ErrTwice, permit.CheckBridge(b) == api.OK, api.ErrArg, len(m.bridges) < 19, api.ErrFull)
		if e == api.OK {
			m.bridges[w[0]], m.versions[w[0]] = &b, 1
		}
	case "member", "bear":
		e = m.strengthen(name, w)
	default:
		e = m.cracks(name, w)
	}
	return "ok", e
}

// strengthen adds or changes a member.
func (m *model) strengthen(name string, w []string) api.Errno {
	b := m.bridges[w[0]]
	if b == nil {
		return api.ErrNone
	}
	if name == "member" {
		more := *b
		more.Members = append(slices.Clone(b.Members), permit.Member{Bands: bandsOf(w[1]), Dead: spanOf(w[2]), Low: num(w[3]), High: num(w[4])})
		if permit.CheckBridge(more) != api.OK {
			return api.ErrArg
		}
		*b = more
	} else {
		if integer(w[1]) >= len(b.Members) {
			return api.ErrNone
		}
		b.Members[integer(w[1])].Low, b.Members[integer(w[1])].High = num(w[2]), num(w[3])
	}
	m.versions[w[0]]++
	return api.OK
}

// cracks carries out an order about laws and elements.
func (m *model) cracks(name string, w []string) api.Errno {
	switch name {
	case "law":
		l := lawOf(w[0])
		e := unless(m.watch == nil, api.ErrState, crack.CheckLaw(l) == api.OK, api.ErrArg, len(m.laws) < 8, api.ErrFull)
		if e == api.OK {
			m.laws = append(m.laws, l)
		}
		return e
	case "element":
		if !m.has(w[1]) {
			return api.ErrNone
		}
		watch := m.watch
		if watch == nil {
			watch, _ = crack.NewWatch(m.laws, exact.Q{})
		}
		e := watch.Add(w[0], integer(w[2]), spanOf(w[3]), num(w[4]))
		if e == api.OK {
			m.watch, m.of[w[0]] = watch, w[1]
		}
		return e
	}
	if m.watch == nil {
		return api.ErrNone
	}
	return m.watch.Repair(w[0], spanOf(w[1]))
}

// operator carries out an order of operators.
func (m *model) operator(name string, w []string) (string, api.Errno) {
	switch name {
	case "weather":
		given := weatherOf(w)
		e := unless(given.Wind <= 1000000 && given.Water <= 1000000 && given.Tremor <= 1000000, api.ErrArg)
		if e == api.OK {
			m.weather = given
		}
		return "ok", e
	case "tick":
		m.period++
		m.watch.Tick()
		return "ok", api.OK
	}
	if m.watch == nil {
		return "", api.ErrNone
	}
	var findings []exact.Span
	for _, s := range listOf(w[1]) {
		findings = append(findings, spanOf(s))
	}
	a, e := m.watch.Inspect(w[0], findings)
	text := a.Size.Low.Text() + ".." + a.Size.High.Text()
	if a.Doubt {
		text += " doubt"
	}
	return text, e
}

// police carries out an order of the police.
func (m *model) police(name string, w []string) (string, api.Errno) {
	if name == "site" {
		s := weigh.Site{Line: lineOf(w[0])}
		e := unless(weigh.CheckSite(s) == api.OK, api.ErrArg, len(m.sites) < 50, api.ErrFull)
		if e == api.OK {
			m.sites = append(m.sites, s)
		}
		return "ok", e
	}
	if len(m.sites) == 0 {
		return "", api.ErrState
	}
	s := &m.sites[len(m.sites)-1]
	if name == "strain" {
		more := weigh.Site{Line: s.Line, Readings: append(slices.Clone(s.Readings), weigh.Reading{At: num(w[0]), Low: num(w[1]), High: num(w[2])})}
		e := weigh.CheckSite(more)
		if e == api.OK {
			*s = more
		}
		return "ok", e
	}
	var gross []exact.Q
	for _, g := range listOf(w[2]) {
		gross = append(gross, num(g))
	}
	accused, e := weigh.Accused(*s, patternsOf(w[0]), weigh.Law{Axle: num(w[1]), Gross: gross}, integer(w[3]))
	return map[bool]string{true: "accused", false: "not accused"}[accused], e
}

// isShut reports whether a bridge is closed by the weather, or has an element
// among the alarms.
func (m *model) isShut(name string) bool {
	most := m.bridges[name].Most
	for _, alarm := range m.watch.Alarms() {
		if m.of[alarm] == name {
			return true
		}
	}
	return m.weather.Wind > most.Wind || m.weather.Water > most.Water || m.weather.Tremor > most.Tremor
}

// stopping returns the first of the bridges of a road that a transport may not
// cross now, or nothing.
func (m *model) stopping(road int, t permit.Transport) string {
	for _, name := range m.roads[road].bridges {
		if unsafe, _ := permit.Bears(*m.bridges[name], t); unsafe >= 0 || m.isShut(name) {
			return name
		}
	}
	return ""
}

// haulier carries out an order of hauliers.
func (m *model) haulier(name string, w []string) (string, api.Errno) {
	if name == "drive" {
		n := integer(w[0])
		if n < 1 || n > len(m.permits) {
			return "", api.ErrNone
		}
		p := m.permits[n-1]
		for _, road := range p.roads {
			if at := m.stopping(road, p.transport); at != "" {
				return "stop " + at, api.OK
			}
		}
		return "go", api.OK
	}
	t := permit.Transport{Loads: loadsOf(w[2]), From: integer(w[3]), To: integer(w[4])}
	_, valid := permit.Bears(permit.Bridge{Impact: []moving.Impact{{}}}, t)
	e := unless(slices.Contains(m.places, w[0]) && slices.Contains(m.places, w[1]), api.ErrNone, valid == api.OK, api.ErrArg)
	if e != api.OK {
		return "", e
	}
	var free []int
	for road := range m.roads {
		if m.stopping(road, t) == "" {
			free = append(free, road)
		}
	}
	best, found := m.best(free, []string{w[0]}, nil, w[1])
	if e := unless(found, api.ErrNoWay, len(m.permits) < 100, api.ErrFull); e != api.OK {
		return "", e
	}
	m.permits = append(m.permits, modelPermit{t, best})
	text := strconv.Itoa(len(m.permits))
	for _, road := range best {
		text += " " + strconv.Itoa(road)
	}
	return text, api.OK
}

// best returns the best of all routes that begin with some roads, over some
// places: those that are longer, or have more roads, or are greater, are worse.
func (m *model) best(free []int, passed []string, roads []int, to string) (best []int, found bool) {
	here := passed[len(passed)-1]
	if here == to {
		return slices.Clone(roads), true
	}
	for _, road := range free {
		r := m.roads[road]
		next := ""
		if r.a == here {
			next = r.b
		} else if r.b == here {
			next = r.a
		}
		if next == "" || slices.Contains(passed, next) {
			continue
		}
		other, ok := m.best(free, append(slices.Clone(passed), next), append(slices.Clone(roads), road), to)
		if ok && (!found || m.isBetter(other, best)) {
			best, found = other, true
		}
	}
	return best, found
}

// isBetter compares two routes.
func (m *model) isBetter(a, b []int) bool {
	length := func(roads []int) int {
		n := 0
		for _, road := range roads {
			n += m.roads[road].length
		}
		return n
	}
	if length(a) != length(b) {
		return length(a) < length(b)
	}
	if len(a) != len(b) {
		return len(a) < len(b)
	}
	return slices.Compare(a, b) < 0
}

// question answers a question.
func (m *model) question(name string, w []string) (string, api.Errno) {
	switch name {
	case "due":
		var parts []string
		for _, d := range m.watch.Due() {
			parts = append(parts, d.Name+" "+strconv.Itoa(d.Deadline))
		}
		return strings.Join(parts, "; "), api.OK
	case "alarms":
		return strings.Join(m.watch.Alarms(), "; "), api.OK
	case "state":
		counts := []string{}
		for _, n := range []int{len(m.places), len(m.roads), len(m.bridges), len(m.of), len(m.permits), m.period, len(m.log)} {
			counts = append(counts, strconv.Itoa(n))
		}
		return strings.Join(counts, " "), api.OK
	case "log":
		n := integer(w[0])
		if n < 1 || n > len(m.log) {
			return "", api.ErrNone
		}
		return strconv.Itoa(m.periods[n-1]) + " " + m.log[n-1], api.OK
	case "then":
		return m.then(w)
	}
	if !m.has(w[0]) {
		return "", api.ErrNone
	}
	return m.about(name, *m.bridges[w[0]], w)
}

// then answers a question as a house that was given the beginning of the log.
func (m *model) then(w []string) (string, api.Errno) {
	name, rest, _ := strings.Cut(w[1], " ")
	for _, f := range forms() {
		form := strings.Fields(f)
		words := strings.Fields(rest)
		if form[0] != "anyone" || form[1] != name || name == "then" || !hasForm(words, form[2:]) || strings.Join(words, " ") != rest {
			continue
		}
		if integer(w[0]) > len(m.log) {
			return "", api.ErrRange
		}
		past := newModel()
		for _, line := range m.log[:integer(w[0])] {
			past.order(line)
		}
		return past.question(name, words)
	}
	return "", api.ErrForm
}

// about answers a question about a bridge.
func (m *model) about(name string, b permit.Bridge, w []string) (string, api.Errno) {
	switch name {
	case "bridge":
		text := strconv.Itoa(m.versions[w[0]]) + " " + strconv.Itoa(len(b.Members))
		return text + map[bool]string{true: " shut", false: " open"}[m.isShut(w[0])], api.OK
	case "rate":
		x, limited, e := permit.Rate(b, permit.Transport{Loads: loadsOf(w[1]), From: integer(w[2]), To: integer(w[3])})
		return map[bool]string{true: x.Text(), false: "unlimited"}[limited], e
	}
	speed, e := permit.Post(b, loadsOf(w[1]))
	return strconv.Itoa(speed), e
}

// listOf returns the elements of a list, or none.
func listOf(word string) []string {
	if word == "-" {
		return nil
	}
	return strings.Split(word, ",")
}

// spanOf returns the span of a word.
func spanOf(word string) exact.Span {
	low, high, _ := strings.Cut(word, "..")
	return exact.Span{Low: num(low), High: num(high)}
}

// weatherOf returns the weather of three words.
func weatherOf(w []string) api.Weather {
	return api.Weather{Wind: integer(w[0]), Water: integer(w[1]), Tremor: integer(w[2])}
}

// eachPair calls a function with both sides of each element of a list.
func eachPair(word, mark string, call func(a, b string)) {
	for _, s := range strings.Split(word, ",") {
		a, b, _ := strings.Cut(s, mark)
		call(a, b)
	}
}

// bandsOf returns the bands of a word.
func bandsOf(word string) (list []moving.Band) {
	eachPair(word, "@", func(a, b string) { list = append(list, moving.Band{X: num(a), Y: spanOf(b)}) })
	return list
}

// lineOf returns the points of a word.
func lineOf(word string) (list []moving.Point) {
	eachPair(word, "@", func(a, b string) { list = append(list, moving.Point{X: num(a), Y: num(b)}) })
	return list
}

// loadsOf returns the loads of a word.
func loadsOf(word string) (list []moving.Load) {
	eachPair(word, "+", func(a, b string) { list = append(list, moving.Load{Load: spanOf(a), Gap: num(b)}) })
	return list
}

// impactsOf returns the impact factors of a word.
func impactsOf(word string) (list []moving.Impact) {
	eachPair(word, ":", func(a, b string) { list = append(list, moving.Impact{From: integer(a), Factor: num(b)}) })
	return list
}

// lawOf returns the growth law of a word.
func lawOf(word string) (list []crack.Step) {
	eachPair(word, ":", func(a, b string) { list = append(list, crack.Step{From: num(a), Grow: spanOf(b)}) })
	return list
}

// patternsOf returns the patterns of a word.
func patternsOf(word string) (list []weigh.Pattern) {
	for _, s := range strings.Split(word, ";") {
		parts := strings.Split(s, "|")
		load := spanOf(parts[2])
		p := weigh.Pattern{Light: load.Low, Heavy: load.High}
		for _, gap := range listOf(parts[0]) {
			p.Gaps = append(p.Gaps, num(gap))
		}
		for _, n := range listOf(parts[1]) {
			p.Vehicles = append(p.Vehicles, integer(n))
		}
		list = append(list, p)
	}
	return list
}

package house

import (
	"strings"

	"voussoir/api"
	"voussoir/crack"
	"voussoir/exact"
	"voussoir/moving"
	"voussoir/permit"
	"voussoir/weigh"
)

// words is what the words of an order stand for. Those of which an order may
// have several are found by the names that the document has for them.
type words struct {
	names    map[string]string
	wholes   map[string]int
	numbers  map[string]exact.Q
	spans    map[string]exact.Span
	bands    []moving.Band
	line     []moving.Point
	loads    []moving.Load
	impact   []moving.Impact
	steps    []crack.Step
	findings []exact.Span
	gross    []exact.Q
	bridges  []string
	patterns []weigh.Pattern
	question deed
}

// wordsOf reads texts that must have these forms.
func wordsOf(forms, texts []string) (words, bool) {
	w := words{names: map[string]string{}, wholes: map[string]int{}, numbers: map[string]exact.Q{}, spans: map[string]exact.Span{}}
	for i, form := range forms {
		if i >= len(texts) {
			return words{}, false
		}
		if form == "ORDER" { // the only form of several words: all that are left
			texts = append(texts[:i:i], strings.Join(texts[i:], " "))
		}
		if !w.take(form, texts[i]) {
			return words{}, false
		}
	}
	return w, len(texts) == len(forms)
}

// take reads one text, if it has its form.
func (w *words) take(form, text string) (ok bool) {
	switch form {
	case "NAME", "BRIDGE", "A", "B":
		w.names[form], ok = readName(text)
	case "WIND", "WATER", "TREMOR", "LENGTH", "SLOW", "FAST", "LAW", "MEMBER", "VEHICLE", "N":
		w.wholes[form], ok = readWhole(text)
	case "LOW", "HIGH", "AT", "AXLE", "CRITICAL":
		w.numbers[form], ok = readNumber(text)
	case "SIZE", "DEAD":
		w.spans[form], ok = readSpan(text)
	case "BANDS":
		w.bands, ok = readPairs(text, "@", readNumber, readSpan, func(x exact.Q, y exact.Span) moving.Band { return moving.Band{X: x, Y: y} })
	case "LINE":
		w.line, ok = readPairs(text, "@", readNumber, readNumber, func(x, y exact.Q) moving.Point { return moving.Point{X: x, Y: y} })
	case "LOADS":
		w.loads, ok = readPairs(text, "+", readSpan, readNumber, func(l exact.Span, gap exact.Q) moving.Load { return moving.Load{Load: l, Gap: gap} })
	case "IMPACT":
		w.impact, ok = readPairs(text, ":", readWhole, readNumber, func(from int, f exact.Q) moving.Impact { return moving.Impact{From: from, Factor: f} })
	case "STEPS":
		w.steps, ok = readPairs(text, ":", readNumber, readSpan, func(from exact.Q, g exact.Span) crack.Step { return crack.Step{From: from, Grow: g} })
	case "FINDINGS":
		w.findings, ok = readListOrNone(text, readSpan)
	case "GROSS":
		w.gross, ok = readList(text, ",", readNumber)
	case "BRIDGES":
		w.bridges, ok = readListOrNone(text, readName)
	case "PATTERNS":
		w.patterns, ok = readList(text, ";", readPattern)
	case "ORDER":
		w.question, ok = readQuestion(text)
	}
	return ok
}

// weather returns the weather of three words.
func (w words) weather() api.Weather {
	return api.Weather{Wind: w.wholes["WIND"], Water: w.wholes["WATER"], Tremor: w.wholes["TREMOR"]}
}

// transport returns the transport of three words.
func (w words) transport() permit.Transport {
	return permit.Transport{Loads: w.loads, From: w.wholes["SLOW"], To: w.wholes["FAST"]}
}

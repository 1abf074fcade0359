package house

import (
	"strconv"
	"strings"

	"voussoir/exact"
)

// done is the answer to an order that has no other one.
const done = "ok"

// inWords returns numbers with a space between two of them.
func inWords(numbers ...int) string {
	var texts []string
	for _, n := range numbers {
		texts = append(texts, strconv.Itoa(n))
	}
	return strings.Join(texts, " ")
}

// inParts returns an answer of several parts.
func inParts(parts []string) string { return strings.Join(parts, "; ") }

// spanText returns a span as readSpan reads it.
func spanText(s exact.Span) string { return s.Low.Text() + ".." + s.High.Text() }

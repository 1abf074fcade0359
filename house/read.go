package house

import (
	"strconv"
	"strings"

	"voussoir/api"
	"voussoir/exact"
	"voussoir/weigh"
)

// maxName is how many bytes a name has at most.
const maxName = 20

// readName reads a name.
func readName(text string) (string, bool) {
	for i, c := range text {
		isLetter := 'a' <= c && c <= 'z'
		isOther := '0' <= c && c <= '9' || c == '_'
		if !isLetter && (i == 0 || !isOther) {
			return "", false
		}
	}
	return text, text != "" && len(text) <= maxName
}

// readWhole reads an integer that is not negative.
func readWhole(text string) (int, bool) {
	n, err := strconv.Atoi(text)
	isPlain := err == nil && n >= 0 && strconv.Itoa(n) == text
	return n, isPlain && len(text) <= api.MaxWhole
}

// readNumber reads a number.
func readNumber(text string) (exact.Q, bool) {
	if len(text) > api.MaxNumber {
		return exact.Q{}, false
	}
	x, e := exact.Read(text)
	return x, e == api.OK
}

// readSpan reads a span, whose ends are in order.
func readSpan(text string) (exact.Span, bool) {
	low, high, ok := readPair(text, "..", readNumber, readNumber)
	return exact.Span{Low: low, High: high}, ok && low.Cmp(high) <= 0
}

// readPattern reads a pattern of a train.
func readPattern(text string) (weigh.Pattern, bool) {
	parts := strings.Split(text, "|")
	if len(parts) != 3 {
		return weigh.Pattern{}, false
	}
	gaps, ok1 := readListOrNone(parts[0], readNumber)
	vehicles, ok2 := readList(parts[1], ",", readWhole)
	load, ok3 := readSpan(parts[2])
	return weigh.Pattern{Gaps: gaps, Vehicles: vehicles, Light: load.Low, Heavy: load.High}, ok1 && ok2 && ok3
}

// readList reads elements with a mark between two of them.
func readList[T any](text, mark string, read func(string) (T, bool)) ([]T, bool) {
	var list []T
	for _, part := range strings.Split(text, mark) {
		x, ok := read(part)
		if !ok {
			return nil, false
		}
		list = append(list, x)
	}
	return list, true
}

// readListOrNone reads elements with a comma between two of them, or the mark
// that there are none.
func readListOrNone[T any](text string, read func(string) (T, bool)) ([]T, bool) {
	if text == "-" {
		return nil, true
	}
	return readList(text, ",", read)
}

// readPairs reads elements with a comma between two of them, each of which is
// made of two things with a mark between them.
func readPairs[A, B, T any](text, mark string, readA func(string) (A, bool), readB func(string) (B, bool), join func(A, B) T) ([]T, bool) {
	return readList(text, ",", func(part string) (T, bool) {
		a, b, ok := readPair(part, mark, readA, readB)
		return join(a, b), ok
	})
}

// readPair reads two things with a mark between them. Where there is no mark,
// there is nothing behind it, and nothing can not be read.
func readPair[A, B any](text, mark string, readA func(string) (A, bool), readB func(string) (B, bool)) (a A, b B, ok bool) {
	left, right, _ := strings.Cut(text, mark)
	a, okA := readA(left)
	b, okB := readB(right)
	return a, b, okA && okB
}

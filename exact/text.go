package exact

import (
	"iter"
	"slices"
	"strconv"
	"strings"

	"voussoir/api"
)

// A group is as many decimal digits as always fit into one limb.
const (
	groupDigits = 19
	groupBase   = 10_000_000_000_000_000_000
)

// Read returns the number whose text is s.
func Read(s string) (Q, api.Errno) {
	if len(s) > api.MaxNumberText {
		return Q{}, api.ErrLong
	}
	digits, neg := strings.CutPrefix(s, "-")
	above, below, slash := strings.Cut(digits, "/")
	if !slash {
		below = "1"
	}
	num, ok1 := readNatural(above)
	den, ok2 := readNatural(below)
	if !ok1 || !ok2 || len(den) == 0 {
		return Q{}, api.ErrForm
	}
	x := timesWide(whole(neg, num), whole(false, den).reciprocal())
	// A number has one text only: whatever else was read has not its form.
	if x.Text() != s {
		return Q{}, api.ErrForm
	}
	return x, api.OK
}

// Text returns the text of x.
func (x Q) Text() string {
	num, den := x.parts()
	text := num.text()
	if x.neg {
		text = "-" + text
	}
	if len(den) == 1 && den[0] == 1 {
		return text
	}
	return text + "/" + den.text()
}

// readNatural reads decimal digits.
func readNatural(s string) (natural, bool) {
	if s == "" {
		return nil, false
	}
	var x natural
	for s != "" {
		// The first group has what is left over, so that all others are full.
		length := (len(s)-1)%groupDigits + 1
		group, err := strconv.ParseUint(s[:length], 10, limbBits)
		if err != nil {
			return nil, false
		}
		x = x.times(natural{groupBase}).plus(word(group))
		s = s[length:]
	}
	return x, true
}

// text returns the decimal digits of x.
func (x natural) text() string {
	if len(x) == 0 {
		return "0"
	}
	text := make([]byte, (groupDigits+1)*len(x))
	start := len(text)
	for digit := range x.digits() {
		start--
		text[start] = digit
	}
	return string(text[start:])
}

// digits yields the decimal digits of x, the last one first.
func (x natural) digits() iter.Seq[byte] {
	return func(yield func(byte) bool) {
		rest := slices.Clone(x)
		for len(rest) > 0 {
			group := divideByWord(rest, groupBase)
			rest = trim(rest)
			for range groupDigits {
				if group == 0 && len(rest) == 0 || !yield('0'+byte(group%10)) {
					return
				}
				group /= 10
			}
		}
	}
}

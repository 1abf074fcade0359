package house_test

import (
	"strconv"
	"strings"
	"testing"

	"voussoir/house"
)

// passage is the passage of the document's example.
const passage = `
	police site 0@0,5@1,10@0
	police strain 5 11 12
	police strain 9 11 12
`

// TestP12_6Accuse accuses vehicles that are too heavy whatever passed.
func TestP12_6Accuse(t *testing.T) {
	h := played(t, passage, `
		police accuse 4|2|0..20 20 9,18,30,40,50,60 0 => accused
		police accuse 4|2|0..20 20 9,19,30,40,50,60 0 => not accused
		police accuse 4|2|0..20 20 9,55/3,30,40,50,60 0 => not accused
		police accuse 4|2|0..20 20 9,18,30,40,50,60 1 => not accused
		police accuse 4|2|0..20;4|1,1|0..20 20 15,18,30,40,50,60 0 => not accused
		police accuse 4|2|0..20;4|1,1|0..20 20 8,18,30,40,50,60 0 => accused
		police accuse 4|2|0..20;4|1,1|0..8 20 8,18,30,40,50,60 0 => accused
		police accuse 4|1,1|0..20 20 8,18,30,40,50,60 1 => accused
		police accuse 4|1,1|0..20 20 12,18,30,40,50,60 1 => not accused
		police accuse 4|2|0..20 8 30,30,30,40,50,60 0 => accused
		police accuse 4|2|0..20 10 30,30,30,40,50,60 0 => not accused
		anyone state => 0 0 0 0 0 0 14
	`)
	play(t, h, `
		police site 0@0,5@1,10@0
		police accuse 4|2|0..20 20 9,18,30,40,50,60 0 => not accused
		police strain 5 11 12
		police accuse 4|2|0..20 20 9,18,30,40,50,60 0 => not accused
		police accuse 4|2|0..20 20 9,10,30,40,50,60 0 => accused
		police accuse -|1|0..20 20 9,10,30,40,50,60 0 => accused
		police accuse -|1|0..20 20 11,10,30,40,50,60 0 => not accused
	`)
}

// TestP12_6AccuseErrors asks for accusations that can not be, with one error,
// or with several of them.
func TestP12_6AccuseErrors(t *testing.T) {
	gross := "9,18,30,40,50,60"
	play(t, house.New(), `
		police accuse 4|2|0..20 20 `+gross+` 0 => ErrState
		police accuse 4|1|0..20 20 9,18 9 => ErrState
	`)
	ten := strings.Repeat("4|2|0..20;", 9) + "4|2|0..20"
	h := played(t, passage)
	playInVain(t, h, `
		police accuse `+ten+`;4|2|0..20 20 `+gross+` 0 => ErrLong
		police accuse `+ten+`;4|1|0..20 20 9,18 9 => ErrLong
		police accuse 4|1|0..20 20 `+gross+` 0 => ErrArg
		police accuse 4|2|0..20;4|3|0..20 20 `+gross+` 0 => ErrArg
		police accuse -4|2|0..20 20 `+gross+` 0 => ErrArg
		police accuse 4|2,0|0..20 20 `+gross+` 0 => ErrArg
		police accuse 4|2|-1..20 20 `+gross+` 0 => ErrArg
		police accuse 1,1,1,1,1,1|7|0..20 20 `+gross+` 0 => ErrArg
		police accuse 4|2|0..20 20 9,18,30,40,50 0 => ErrArg
		police accuse 4|2|0..20 20 `+gross+`,70 0 => ErrArg
		police accuse 4|2|0..20 20 9 6 => ErrArg
		police accuse 4|1|0..20 20 `+gross+` 6 => ErrArg
		police accuse 4|2|0..20 20 `+gross+` 6 => ErrRange
		police accuse 4|2|0..20 20 `+gross+` 999999999 => ErrRange
		police accuse 4|2|0..1 20 `+gross+` 0 => ErrNoTrain
		police accuse 4|2|0..1 20 `+gross+` 6 => ErrRange
	`)
	play(t, h, `
		police accuse `+ten+` 20 `+gross+` 0 => accused
		police accuse `+ten+` 20 `+gross+` 5 => not accused
		police accuse 1,1,1,1,1|6|0..20 20 `+gross+` 0 => not accused
	`)
}

// TestP12_6Site begins passages up to the limit, and wrong ones.
func TestP12_6Site(t *testing.T) {
	line := "0@0,1@-2"
	for i := 2; i < 59; i++ {
		line += "," + strconv.Itoa(i) + "@-1/" + strconv.Itoa(i)
	}
	h := played(t, "police site "+line+",59@0", `
		police strain 5 -2 -1
		police accuse -|1|0..20 4 9,18,30,40,50,60 0 => accused
	`)
	play(t, h, `
		police site 0@0 => ErrArg
		police site 0@0,5@1 => ErrArg
		police site 0@1,5@0 => ErrArg
		police site 0@0,5@1,5@0 => ErrArg
		police site 5@0,0@0 => ErrArg
		police site `+line+`,59@1,60@0 => ErrArg
		police accuse -|1|0..20 4 9,18,30,40,50,60 0 => accused
		police accuse -|1|0..20 5 9,18,30,40,50,60 0 => not accused
		anyone state => 0 0 0 0 0 0 5
	`)
	play(t, h, repeat(48, "police site 0@0,5@1,10@0")+`
		police strain 5 1 2
		police accuse -|1|0..20 0 9,18,30,40,50,60 0 => accused
		police site 0@0,5@1,10@0
		police accuse -|1|0..20 0 9,18,30,40,50,60 0 => not accused
		police strain 5 1 2
		police site 0@0,5@1,10@0 => ErrFull
		police site 0@0 => ErrArg
		police accuse -|1|0..20 0 9,18,30,40,50,60 0 => accused
		police strain 5 3 4
		police accuse -|1|0..20 0 9,18,30,40,50,60 0 => ErrNoTrain
	`)
	play(t, house.New(), `
		police site 0@0 => ErrArg
		police strain 5 1 2 => ErrState
		police strain 5 2 1 => ErrState
		police accuse -|1|0..20 0 9,18,30,40,50,60 0 => ErrState
	`)
}

// TestP12_6Strain adds readings up to the limit, and wrong ones.
func TestP12_6Strain(t *testing.T) {
	h := played(t, passage)
	playInVain(t, h, `
		police strain 5 12 11 => ErrArg
		police strain 5 0 -1/9 => ErrArg
	`)
	play(t, h, repeat(17, "police strain 5 1 2#")+`
		police accuse 4|2|0..20 20 9,18,30,40,50,60 0 => accused
		police strain 5 12 12
		police accuse 4|2|0..20 20 9,19,30,40,50,60 0 => accused
		police strain 5 11 12 => ErrArg
		police strain 5 0 0 => ErrArg
		police accuse 4|2|0..20 20 9,19,30,40,50,60 0 => accused
		police site 0@0,5@1,10@0
		police strain -5 0 0
		police accuse 4|2|0..20 20 9,19,30,40,50,60 0 => not accused
		police strain -5 1/9 1
		police accuse 4|2|0..20 20 9,19,30,40,50,60 0 => ErrNoTrain
	`)
}

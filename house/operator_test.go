package house_test

import (
	"strings"
	"testing"

	"voussoir/house"
)

// TestP12_5Weather tells the weather, which closes bridges.
func TestP12_5Weather(t *testing.T) {
	h := played(t, oldBridge, `
		owner bridge new 1000000 0 1000000 0:1
		operator weather 10 20 5
		anyone bridge old => 2 1 open
		anyone bridge new => 1 0 shut
		operator weather 11 0 0
		anyone bridge old => 2 1 shut
		anyone bridge new => 1 0 open
		operator weather 0 21 0
		anyone bridge old => 2 1 shut
		anyone bridge new => 1 0 shut
		operator weather 0 0 6
		anyone bridge old => 2 1 shut
		anyone bridge new => 1 0 open
		operator weather 20 10 5
		anyone bridge old => 2 1 shut
		operator weather 1000000 0 1000000
		anyone bridge new => 1 0 open
	`)
	playInVain(t, h, `
		operator weather 1000001 0 0 => ErrArg
		operator weather 0 1000001 0 => ErrArg
		operator weather 0 0 1000001 => ErrArg
		operator weather 0 0 999999999 => ErrArg
	`)
	play(t, h, `
		operator weather 1 2 3
		anyone bridge old => 2 1 open
		operator tick
		anyone bridge new => 1 0 shut
	`)
}

// TestP12_5Tick lets periods pass, also without a watch.
func TestP12_5Tick(t *testing.T) {
	play(t, house.New(), repeat(3, "operator tick")+`
		anyone state => 0 0 0 0 0 3 3
		anyone due => nothing
		owner bridge old 0 0 0 0:1
		owner law 0:1..2,10:2..5
		owner law 0:0..0
		owner element weld old 0 8..9 16
		owner element bolt old 1 8..9 16
		anyone due => weld 2; bolt 200
		operator tick
		anyone due => weld 1; bolt 200
		operator inspect weld - => 9..11
		operator inspect bolt - => 8..9
		operator tick
		operator inspect weld - => 10..16
		anyone due => weld 0; bolt 200
		operator tick
		operator inspect weld - => 12..21
		anyone due => bolt 200
		anyone alarms => weld
		anyone state => 0 0 1 2 0 6 15
	`)
	// The log ends before the periods do.
	play(t, house.New(), repeat(400, "operator tick")+`
		anyone state => 0 0 0 0 0 400 400
		operator tick => ErrFull
		anyone state => 0 0 0 0 0 400 400
		anyone log 400 => 399 operator tick
	`)
}

// TestP12_5Inspect tells what inspectors find.
func TestP12_5Inspect(t *testing.T) {
	twelve := strings.Repeat("8..9,", 11) + "8..9"
	h := played(t, oldBridge, "operator inspect weld 1..2 => ErrNone\noperator inspect weld - => ErrNone\n", crackedWeld, `
		owner fix weld 9..11
		operator inspect weld 10..12,8..10,13..14 => 10..10 doubt
		operator inspect weld - => 10..10
		operator inspect weld 1..2 => 10..10 doubt
		owner fix weld 0..11
		operator inspect weld 1/3..22 => 1/3..11
		operator inspect weld 0..1,2..3,5..6,11/2..7 => 11/2..6 doubt
		operator inspect weld 0..9 => 11/2..6
		owner fix weld 8..9
		operator inspect weld `+twelve+` => 8..9
		operator inspect weld `+strings.Replace(twelve, "8", "7", 1)+` => 8..9
		anyone alarms => weld
		operator inspect weld 0..8 => 8..8
		operator tick
		operator inspect weld 0..9 => 9..9
	`)
	playInVain(t, h, `
		operator inspect bolt 1..2 => ErrNone
		operator inspect old 1..2 => ErrNone
		operator inspect bolt -1..2 => ErrNone
		operator inspect bolt `+twelve+`,1..2 => ErrNone
		operator inspect weld -1..2 => ErrArg
		operator inspect weld 9..9,-1/9..-1/9 => ErrArg
		operator inspect weld `+twelve+`,1..2 => ErrLong
		operator inspect weld `+twelve+`,-1..2 => ErrLong
		operator inspect weld -1..2,`+twelve+` => ErrLong
	`)
	play(t, h, "operator inspect weld - => 9..9")
}

// TestP12_5Shut shuts bridges by their own elements alone, and opens them again.
func TestP12_5Shut(t *testing.T) {
	play(t, played(t, oldBridge, crackedWeld), `
		owner bridge weld 5 5 5 0:1
		owner bridge new 5 5 5 0:1
		owner element old new 0 0..3 5
		owner element bolt old 0 0..3 5
		operator tick
		anyone alarms => nothing
		anyone bridge old => 2 1 open
		anyone bridge new => 1 0 open
		owner fix old 0..6
		anyone alarms => old
		anyone bridge old => 2 1 open
		anyone bridge new => 1 0 shut
		owner fix old 0..5
		anyone bridge new => 1 0 open
		owner fix weld 5..6
		anyone alarms => weld
		anyone bridge old => 2 1 shut
		anyone bridge weld => 1 0 open
		anyone bridge new => 1 0 open
		operator inspect weld 0..5 => 5..5
		anyone bridge old => 2 1 open
		operator tick
		anyone alarms => bolt; old; weld
		anyone bridge old => 2 1 shut
		anyone bridge new => 1 0 shut
		owner fix weld 0..0
		anyone bridge old => 2 1 shut
		owner fix bolt 0..0
		anyone bridge old => 2 1 open
		operator weather 11 0 0
		anyone bridge old => 2 1 shut
		owner fix bolt 9..9
		anyone bridge old => 2 1 shut
		operator weather 0 0 0
		anyone bridge old => 2 1 shut
		owner fix bolt 0..0
		anyone bridge old => 2 1 open
		anyone bridge weld => 1 0 open
	`)
}

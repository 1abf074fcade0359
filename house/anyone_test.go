package house_test

import (
	"strings"
	"testing"

	"voussoir/house"
)

// TestP12Examples plays the document's examples.
func TestP12Examples(t *testing.T) {
	h := played(t, oldBridge, `
		anyone rate old `+truck+` 0 50 => 14/15
		anyone post old `+truck+` => 29
		haulier ask a b `+truck+` 0 50 => ErrNoWay
		haulier ask a b `+truck+` 0 20 => 1 0
		haulier drive 1 => go
		operator weather 11 0 0
		haulier drive 1 => stop old
		anyone bridge old => 2 1 shut
	`, crackedWeld, `
		anyone due => weld 1
		operator tick
		anyone due => weld 0
		operator tick
		anyone due => nothing
		anyone alarms => weld
		operator inspect weld 2..4 => 3..4
	`, passage, `
		police accuse 4|2|0..20 20 9,18,30,40,50,60 0 => accused
		owner tick => ErrRole
		owner tock => ErrForm
		anyone then 0 state => 0 0 0 0 0 0 0
	`)
	play(t, h, "anyone state => 2 1 1 1 1 2 18")
}

// TestP12_8Questions asks about bridges, also about those that there are not.
func TestP12_8Questions(t *testing.T) {
	h := played(t, oldBridge, `
		owner bridge new 0 0 0 0:0
		owner bridge weak 0 0 0 0:1
		owner member weak 0@0..0,5@1..1,10@0..0 2..3 0 2
	`)
	playInVain(t, h, `
		anyone bridge old => 2 1 open
		anyone bridge new => 1 0 open
		anyone bridge a => ErrNone
		anyone rate old `+truck+` 0 20 => 7/6
		anyone rate old `+truck+` 30 50 => 14/15
		anyone rate old 20..20+4,20..20+0 0 0 => 7/12
		anyone rate old 0..0+0 0 300 => unlimited
		anyone rate new `+truck+` 0 300 => unlimited
		anyone rate weak `+truck+` 0 20 => ErrWeak
		anyone rate weak `+truck+` 20 0 => ErrArg
		anyone rate old `+truck+` 20 0 => ErrArg
		anyone rate old `+truck+` 0 301 => ErrArg
		anyone rate old 1..1+1 0 0 => ErrArg
		anyone rate old -1..1+0 0 0 => ErrArg
		anyone rate a `+truck+` 0 20 => ErrNone
		anyone rate a `+truck+` 20 0 => ErrNone
		anyone post old `+truck+` => 29
		anyone post old 20..20+0 => -1
		anyone post old 0..10+0 => 300
		anyone post new 100..100+0 => 300
		anyone post weak 1..1+0 => -1
		anyone post old 1..1+1 => ErrArg
		anyone post old -1..1+0 => ErrArg
		anyone post a `+truck+` => ErrNone
		anyone post a 1..1+1 => ErrNone
	`)
}

// TestP12_8Lists asks for deadlines, the smaller ones first, and for alarms.
func TestP12_8Lists(t *testing.T) {
	play(t, house.New(), `
		anyone due => nothing
		anyone alarms => nothing
		owner bridge old 0 0 0 0:1
		owner law 0:1..2
		owner law 0:0..0
		anyone due => nothing
		owner element weld old 0 1..2 9
		anyone due => weld 3
		owner element beam old 0 1..2 9
		owner element nut old 1 1..2 9
		owner element bolt old 0 1..2 5
		owner element post old 0 1..2 10
		owner element a2 old 0 1..2 1
		owner element a_1 old 0 1..2 0
		anyone due => bolt 1; beam 3; weld 3; post 4; nut 200
		anyone alarms => a2; a_1
		owner fix nut 10..10
		owner fix a2 0..0
		anyone due => a2 0; bolt 1; beam 3; weld 3; post 4
		anyone alarms => a_1; nut
		owner fix a_1 0..0
		owner fix nut 9..9
		anyone due => a2 0; a_1 0; bolt 1; beam 3; weld 3; post 4; nut 200
		anyone alarms => nothing
	`)
}

// TestP12_8State counts each kind.
func TestP12_8State(t *testing.T) {
	h := played(t, `
		anyone state => 0 0 0 0 0 0 0
		owner place a
		anyone state => 1 0 0 0 0 0 1
		owner place b
		owner road a b 1 -
		anyone state => 2 1 0 0 0 0 3
		owner bridge x 0 0 0 0:1
		anyone state => 2 1 1 0 0 0 4
		owner law 0:1..2
		owner element e x 0 1..2 9
		owner element f x 0 1..2 9
		anyone state => 2 1 1 2 0 0 7
		haulier ask a b 1..1+0 0 0 => 1 0
		haulier ask a b 1..1+0 0 0 => 2 0
		haulier ask b a 1..1+0 0 0 => 3 0
		anyone state => 2 1 1 2 3 0 10
		operator tick
		operator tick
		operator tick
		operator tick
		anyone state => 2 1 1 2 3 4 14
		owner bridge x 0 0 0 0:1 => ErrTwice
		anyone bridge x => 1 0 shut
		anyone state => 2 1 1 2 3 4 14
	`)
	play(t, h, "haulier drive 2 => go\nanyone state => 2 1 1 2 3 4 15")
}

// TestP12_8Log asks for the orders of the log, and for others.
func TestP12_8Log(t *testing.T) {
	play(t, house.New(), `
		anyone log 0 => ErrNone
		anyone log 1 => ErrNone
		owner place a
		owner place a => ErrTwice
		anyone state => 1 0 0 0 0 0 1
		operator tick
		operator tick
		owner bridge x 0 0 0 0:1,30:5/4
		operator tick
		haulier ask a a 1..1+0 0 0 => 1
		haulier drive 1 => go
		police site 0@0,5@-1/2,10@0
		police accuse -|1|1..2;-|1|1..2 0 0,0,0,0,0,0 0 => accused
		operator inspect e - => ErrNone
		owner law 0:1..2
		owner element e x 0 1..2 9
		operator inspect e - => 1..2
		anyone log 0 => ErrNone
		anyone log 1 => 0 owner place a
		anyone log 2 => 0 operator tick
		anyone log 3 => 1 operator tick
		anyone log 4 => 2 owner bridge x 0 0 0 0:1,30:5/4
		anyone log 5 => 2 operator tick
		anyone log 6 => 3 haulier ask a a 1..1+0 0 0
		anyone log 7 => 3 haulier drive 1
		anyone log 8 => 3 police site 0@0,5@-1/2,10@0
		anyone log 9 => 3 police accuse -|1|1..2;-|1|1..2 0 0,0,0,0,0,0 0
		anyone log 10 => 3 owner law 0:1..2
		anyone log 11 => 3 owner element e x 0 1..2 9
		anyone log 12 => 3 operator inspect e -
		anyone log 13 => ErrNone
		anyone log 999999999 => ErrNone
	`)
	play(t, house.New(), longSite(4000)+`
		anyone log 1 => 0 `+longSite(4000)+`
	`)
}

// TestP12_9Then asks all questions about the past, in which there were other
// versions, weather, sizes, roads and orders.
func TestP12_9Then(t *testing.T) {
	h := played(t, oldBridge, crackedWeld, `
		operator tick
		owner bear old 0 0 20
		operator weather 11 0 0
		operator tick
		operator weather 0 0 0
		operator inspect weld 2..4 => 3..4
		owner element beam old 0 0..0 1
		owner fix weld 5..6
		haulier ask a a 1..1+0 0 0 => 1
	`)
	play(t, h, `
		anyone then 0 state => 0 0 0 0 0 0 0
		anyone then 0 bridge old => ErrNone
		anyone then 0 due => nothing
		anyone then 2 bridge old => ErrNone
		anyone then 2 rate old `+truck+` 0 50 => ErrNone
		anyone then 2 post old `+truck+` => ErrNone
		anyone then 3 bridge old => 1 0 open
		anyone then 3 rate old `+truck+` 0 50 => unlimited
		anyone then 4 bridge old => 2 1 open
		anyone then 4 rate old `+truck+` 0 50 => 14/15
		anyone then 4 post old `+truck+` => 29
		anyone then 4 state => 2 0 1 0 0 0 4
		anyone then 5 state => 2 1 1 0 0 0 5
		anyone then 6 due => nothing
		anyone then 7 due => weld 1
		anyone then 8 due => weld 0
		anyone then 8 bridge old => 2 1 open
		anyone then 8 post old `+truck+` => 29
		anyone then 9 bridge old => 3 1 open
		anyone then 9 post old `+truck+` => 300
		anyone then 9 rate old `+truck+` 0 50 => 17/15
		anyone then 10 bridge old => 3 1 shut
		anyone then 10 alarms => nothing
		anyone then 11 alarms => weld
		anyone then 11 due => nothing
		anyone then 11 state => 2 1 1 1 0 2 11
		anyone then 12 bridge old => 3 1 shut
		anyone then 13 bridge old => 3 1 open
		anyone then 13 due => weld 0
		anyone then 14 due => beam 0; weld 0
		anyone then 15 due => beam 0
		anyone then 15 alarms => weld
		anyone then 15 bridge old => 3 1 shut
		anyone then 15 state => 2 1 1 2 0 2 15
		anyone then 16 state => 2 1 1 2 1 2 16
		anyone then 16 bridge old => 3 1 shut
		anyone then 0 log 0 => ErrNone
		anyone then 0 log 1 => ErrNone
		anyone then 1 log 1 => 0 owner place a
		anyone then 1 log 2 => ErrNone
		anyone then 11 log 11 => 1 operator tick
		anyone then 11 log 12 => ErrNone
		anyone then 16 log 16 => 2 haulier ask a a 1..1+0 0 0
		anyone then 16 log 17 => ErrNone
	`)
	play(t, h, "owner place c\nanyone then 16 state => 2 1 1 2 1 2 16\nanyone then 17 state => 3 1 1 2 1 2 17\nanyone then 8 due => weld 0")
}

// TestP12_9Errors asks about the past with one error, or with several of them.
func TestP12_9Errors(t *testing.T) {
	h := played(t, oldBridge)
	playInVain(t, h, `
		anyone then 6 state => ErrRange
		anyone then 999999999 state => ErrRange
		anyone then 6 bridge new => ErrRange
		anyone then 6 rate old 1..1+1 0 0 => ErrRange
		anyone then 5 bridge new => ErrNone
		anyone then 5 rate old 1..1+1 0 0 => ErrArg
		anyone then 5 rate new 1..1+1 0 0 => ErrNone
		anyone then 5 post old 1..1+1 => ErrArg
		anyone then 5 log 9 => ErrNone
		anyone then 6 => ErrForm
		anyone then state => ErrForm
		anyone then -1 state => ErrForm
		anyone then 6 states => ErrForm
		anyone then 6 state 1 => ErrForm
		anyone then 6 bridge => ErrForm
		anyone then 6 bridge New => ErrForm
		anyone then 6 rate old 1..1+1 0 => ErrForm
		anyone then 6 anyone state => ErrForm
		anyone then 6 then 0 state => ErrForm
		anyone then 0 then 0 state => ErrForm
		anyone then 0 then => ErrForm
		anyone then 6 tick => ErrForm
		anyone then 0 tick => ErrForm
		anyone then 0 operator tick => ErrForm
		anyone then 0 place c => ErrForm
		anyone then 0 drive 1 => ErrForm
		owner then 0 state => ErrRole
		haulier then 0 place c => ErrRole
		anyone `+strings.Repeat("then 0 ", 500)+`state => ErrForm
	`)
}

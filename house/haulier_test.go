package house_test

import (
	"strconv"
	"strings"
	"testing"

	"voussoir/house"
)

// triangle is three places; the short road from a to b goes over bridges.
const triangle = `
	owner place a
	owner place b
	owner place c
	owner bridge old 10 20 5 0:1,30:5/4
	owner member old 0@0..0,5@1..1,10@0..0 2..3 0 17
	owner bridge new 5 5 5 0:1
	owner road a b 5 old,new
	owner road c b 4 -
	owner road a c 4 new
`

// TestP12_7Ask asks for permits: around a bridge that does not bear the
// transport, or that is shut, or not at all.
func TestP12_7Ask(t *testing.T) {
	play(t, played(t, triangle), `
		haulier ask a b `+truck+` 0 20 => 1 0
		haulier ask b a `+truck+` 0 20 => 2 0
		haulier ask a b `+truck+` 0 29 => 3 0
		haulier ask a b `+truck+` 0 30 => 4 2 1
		haulier ask b a `+truck+` 30 30 => 5 1 2
		haulier ask a a `+truck+` 0 300 => 6
		haulier ask c c `+truck+` 0 300 => 7
		owner bear old 0 0 14
		haulier ask a b `+truck+` 0 20 => 8 2 1
		owner bear old 0 0 18
		haulier ask a b `+truck+` 0 50 => 9 0
		operator weather 5 5 5
		haulier ask a b `+truck+` 0 50 => 10 0
		operator weather 6 5 5
		haulier ask a b `+truck+` 0 50 => ErrNoWay
		haulier ask a c `+truck+` 0 50 => ErrNoWay
		haulier ask c b `+truck+` 0 50 => 11 1
		operator weather 5 5 5
		owner law 0:0..0
		owner element weld old 0 0..6 5
		haulier ask a b `+truck+` 0 50 => 12 2 1
		haulier ask a b 0..0+0 0 0 => 13 2 1
		owner element bolt new 0 0..6 5
		haulier ask a b `+truck+` 0 50 => ErrNoWay
		haulier ask a a `+truck+` 0 50 => 14
		owner fix bolt 0..5
		owner fix weld 0..5
		haulier ask a b `+truck+` 0 50 => 15 0
		owner member new 0@0..0,5@0..1,10@0..0 0..0 0 12
		haulier ask a b `+truck+` 0 50 => 16 0
		owner bear new 0 0 11
		haulier ask a b `+truck+` 0 50 => ErrNoWay
		anyone state => 3 3 2 2 16 0 37
	`)
}

// TestP12_7AskErrors asks for permits that can not be, with one error, or with
// several of them.
func TestP12_7AskErrors(t *testing.T) {
	twenty := strings.Repeat("1..1+0,", 19) + "1..1+0"
	h := played(t, triangle, "owner place d\n")
	playInVain(t, h, `
		haulier ask a e `+truck+` 0 20 => ErrNone
		haulier ask e a `+truck+` 0 20 => ErrNone
		haulier ask e e `+truck+` 0 20 => ErrNone
		haulier ask a old `+truck+` 0 20 => ErrNone
		haulier ask a e `+truck+` 20 0 => ErrNone
		haulier ask e a 1..2+3 0 20 => ErrNone
		haulier ask a b `+truck+` 20 19 => ErrArg
		haulier ask a b `+truck+` 0 301 => ErrArg
		haulier ask a b `+truck+` 301 301 => ErrArg
		haulier ask a b `+truck+` 999999999 999999999 => ErrArg
		haulier ask a b 1..2+3 0 20 => ErrArg
		haulier ask a b -1..2+0 0 20 => ErrArg
		haulier ask a b 1..2+-3,1..2+0 0 20 => ErrArg
		haulier ask a b `+twenty+`,1..1+0 0 20 => ErrArg
		haulier ask a d 1..2+3 0 20 => ErrArg
		haulier ask a a 1..2+3 0 20 => ErrArg
		haulier ask a d `+truck+` 0 20 => ErrNoWay
		haulier ask d a `+truck+` 0 20 => ErrNoWay
	`)
	play(t, h, `
		haulier ask a b `+twenty+` 0 300 => 1 2 1
		haulier ask a b `+strings.ReplaceAll(twenty, "1..1", "0..1/2")+` 0 300 => 2 0
	`)
}

// TestP12_7AskFull asks for as many permits as there may be.
func TestP12_7AskFull(t *testing.T) {
	h := played(t, triangle, "owner place d\n")
	for n := 1; n <= 100; n++ {
		play(t, h, "haulier ask b a 0..1+0 0 "+strconv.Itoa(n)+" => "+strconv.Itoa(n)+" 0")
	}
	play(t, h, `
		anyone state => 4 3 2 0 100 0 110
		haulier ask a b 0..1+0 0 0 => ErrFull
		haulier ask a a 0..1+0 0 0 => ErrFull
		haulier ask a d 0..1+0 0 0 => ErrNoWay
		haulier ask a b 0..1+1 0 0 => ErrArg
		haulier ask a e 0..1+0 0 0 => ErrNone
		haulier drive 100 => go
		haulier drive 101 => ErrNone
		anyone state => 4 3 2 0 100 0 111
	`)
}

// TestP12_7Drive asks whether permits still hold.
func TestP12_7Drive(t *testing.T) {
	play(t, house.New(), `
		haulier drive 0 => ErrNone
		haulier drive 1 => ErrNone
	`)
	play(t, played(t, triangle), `
		haulier ask a b `+truck+` 0 20 => 1 0
		haulier ask a b `+truck+` 0 30 => 2 2 1
		haulier ask a a `+truck+` 0 30 => 3
		haulier drive 0 => ErrNone
		haulier drive 4 => ErrNone
		haulier drive 999999999 => ErrNone
		haulier drive 1 => go
		haulier drive 2 => go
		haulier drive 3 => go
		owner bear old 0 0 15
		haulier drive 1 => go
		owner bear old 0 0 14
		haulier drive 1 => stop old
		haulier drive 2 => go
		owner bear old 0 0 17
		haulier drive 1 => go
		owner member old 0@0..0,5@-1..0,10@0..0 0..0 -9 9
		haulier drive 1 => stop old
		owner bear old 1 -12 0
		haulier drive 1 => go
		operator weather 6 0 0
		haulier drive 1 => stop new
		haulier drive 2 => stop new
		haulier drive 3 => go
		operator weather 11 0 0
		haulier drive 1 => stop old
		haulier drive 2 => stop new
		operator weather 5 5 5
		haulier drive 1 => go
		owner law 0:0..1
		owner element bolt new 0 0..4 5
		haulier drive 1 => go
		operator tick
		haulier drive 1 => go
		operator tick
		haulier drive 1 => stop new
		haulier drive 2 => stop new
		haulier drive 3 => go
		owner element weld old 0 6..6 5
		haulier drive 1 => stop old
		haulier drive 2 => stop new
		owner fix bolt 0..0
		haulier drive 1 => stop old
		haulier drive 2 => go
		operator inspect weld 6..6 => 6..6
		haulier drive 1 => stop old
		owner fix weld 5..5
		haulier drive 1 => go
		anyone state => 3 3 2 2 3 2 54
	`)
}

// TestP12_7DriveOrder checks in which order the bridges of a route are asked:
// on each road as they were given, in whichever direction it is driven on.
func TestP12_7DriveOrder(t *testing.T) {
	play(t, house.New(), `
		owner place a
		owner place b
		owner place c
		owner bridge v 1 1 1 0:1
		owner bridge w 1 1 1 0:1
		owner bridge x 1 1 1 0:1
		owner bridge y 1 1 1 0:1
		owner road a b 1 x,w,x
		owner road b c 1 v,y
		haulier ask a c 1..1+0 0 0 => 1 0 1
		haulier ask c a 1..1+0 0 0 => 2 1 0
		operator weather 2 0 0
		haulier drive 1 => stop x
		haulier drive 2 => stop v
		operator weather 0 0 0
		owner law 0:0..0
		owner element ew w 0 9..9 1
		owner element ey y 0 9..9 1
		haulier drive 1 => stop w
		haulier drive 2 => stop y
		owner fix ew 0..0
		haulier drive 1 => stop y
		haulier drive 2 => stop y
		owner element ev v 0 9..9 1
		haulier drive 1 => stop v
		owner member x 0@0..0,1@0..0 0..0 1 0
		haulier drive 1 => stop x
		haulier drive 2 => stop v
		owner fix ev 1..1
		haulier drive 2 => stop y
		owner fix ey 0..1
		haulier drive 2 => stop x
		owner bear x 0 0 0
		haulier drive 2 => go
		haulier drive 1 => go
	`)
}

// TestP12_7Network asks for routes over all the bridges and roads that there may
// be, each road over as many bridges as it may have; all of them can be shut.
func TestP12_7Network(t *testing.T) {
	script := repeat(20, "owner place p#") + repeat(19, "owner bridge b# # 0 0 0:1")
	for i := range 40 {
		a := i % 19
		script += "owner road p" + strconv.Itoa(a) + " p" + strconv.Itoa(a+1) + " " + strconv.Itoa(i/19) + " b18,b" + strconv.Itoa(a) + ",b18,b" + strconv.Itoa(a) + ",b18\n"
	}
	play(t, house.New(), script+`
		anyone state => 20 40 19 0 0 0 79
		haulier ask p0 p19 1..1+0 0 0 => 1 0 1 2 3 4 5 6 7 8 9 10 11 12 13 14 15 16 17 18
		haulier drive 1 => go
		operator weather 3 0 0
		haulier ask p0 p19 1..1+0 0 0 => ErrNoWay
		haulier ask p3 p19 1..1+0 0 0 => 2 3 4 5 6 7 8 9 10 11 12 13 14 15 16 17 18
		haulier drive 1 => stop b0
		operator weather 18 0 0
		haulier ask p19 p18 1..1+0 0 0 => 3 18
		haulier ask p18 p17 1..1+0 0 0 => ErrNoWay
		haulier drive 2 => stop b3
		haulier drive 3 => go
		operator weather 19 0 0
		haulier ask p19 p18 1..1+0 0 0 => ErrNoWay
		haulier drive 3 => stop b18
		haulier drive 1 => stop b18
	`)
}

package house_test

import (
	"strconv"
	"strings"
	"testing"

	"voussoir/house"
)

// TestP12_2Places adds places up to the limit.
func TestP12_2Places(t *testing.T) {
	h := house.New()
	play(t, h, repeat(20, "owner place p#")+`
		anyone state => 20 0 0 0 0 0 20
		owner place p0 => ErrTwice
		owner place p19 => ErrTwice
		owner place p20 => ErrFull
		owner place p20 => ErrFull
		anyone state => 20 0 0 0 0 0 20
		owner road p0 p19 7 -
		owner road p0 p20 7 - => ErrNone
		haulier ask p19 p0 1..1+0 0 0 => 1 0
	`)
	// Places, bridges and elements have names of their own.
	play(t, house.New(), `
		owner place a
		owner bridge a 0 0 0 0:1
		owner law 0:1..2
		owner element a a 0 0..0 1
		owner place a => ErrTwice
		owner bridge a 0 0 0 0:1 => ErrTwice
		owner element a a 0 0..0 1 => ErrTwice
		anyone state => 1 0 1 1 0 0 4
	`)
}

// TestP12_2Roads adds roads, and drives over them in both directions.
func TestP12_2Roads(t *testing.T) {
	play(t, house.New(), `
		owner place a
		owner place b
		owner place c
		owner bridge x 0 0 0 0:1
		owner bridge y 0 0 0 0:1
		owner road a b 9 x
		owner road b c 0 -
		owner road c a 1000000 y,x,y,y,x
		owner road a c 8 y
		anyone state => 3 4 2 0 0 0 9
		haulier ask a b 1..1+0 0 0 => 1 3 1
		haulier ask b a 1..1+0 0 0 => 2 1 3
		haulier ask c b 1..1+0 0 0 => 3 1
		haulier ask a c 1..1+0 0 0 => 4 3
		owner member y 0@0..0,1@1..1,2@0..0 0..0 0 1/2
		haulier ask a b 1..1+0 0 0 => 5 0
		haulier ask a c 1..1+0 0 0 => 6 0 1
		owner member x 0@0..0,1@1..1,2@0..0 0..0 0 1/2
		haulier ask a b 1..1+0 0 0 => ErrNoWay
		haulier ask c b 1..1+0 0 0 => 7 1
		haulier ask c b 0..1/2+0 0 0 => 8 1
		haulier ask c a 0..1/2+0 0 0 => 9 3
	`)
	play(t, house.New(), `
		owner place a
		owner place b
		owner road b a 6 -
		owner road a b 5 -
		owner road a b 5 -
		haulier ask a b 1..1+0 0 0 => 1 1
	`)
}

// TestP12_2RoadErrors asks for roads that can not be, with one error, or with
// several of them.
func TestP12_2RoadErrors(t *testing.T) {
	h := played(t, `
		owner place a
		owner place b
		owner bridge x 0 0 0 0:1
		owner road a b 1000000 x,x,x,x,x
	`)
	playInVain(t, h, `
		owner road a c 1 - => ErrNone
		owner road c b 1 - => ErrNone
		owner road c c 1 - => ErrNone
		owner road x a 1 - => ErrNone
		owner road a b 1 y => ErrNone
		owner road a b 1 a => ErrNone
		owner road a b 1 x,y => ErrNone
		owner road a b 1 y,x => ErrNone
		owner road a a 1 y => ErrNone
		owner road a b 1000001 y => ErrNone
		owner road a c 1000001 x => ErrNone
		owner road a b 1 x,x,x,x,x,y => ErrNone
		owner road a a 1 - => ErrArg
		owner road b b 1 x => ErrArg
		owner road a b 1000001 - => ErrArg
		owner road a b 999999999 - => ErrArg
		owner road a b 1 x,x,x,x,x,x => ErrArg
		owner road a b 1 `+strings.Repeat("x,", 1900)+`x => ErrArg
	`)
	play(t, h, repeat(39, "owner road b a # x")+`
		owner road a b 1 - => ErrFull
		owner road a b 1 y => ErrNone
		owner road a a 1 - => ErrArg
		owner road a b 1000001 - => ErrArg
		anyone state => 2 40 1 0 0 0 43
		haulier ask a b 1..1+0 0 0 => 1 1
	`)
}

// TestP12_3Bridges adds bridges up to the limit, and wrong ones.
func TestP12_3Bridges(t *testing.T) {
	most := "0:0"
	for i := 1; i < 40; i++ {
		most += "," + strconv.Itoa(7*i) + ":1/" + strconv.Itoa(i+1)
	}
	h := played(t, `
		owner bridge x 1000000 1000000 1000000 `+most+`
		owner bridge old 10 20 5 0:1,30:5/4,300:0
		anyone bridge x => 1 0 open
		anyone bridge old => 1 0 open
		anyone rate x 1..2+0 0 300 => unlimited
		anyone post old 1..2+0 => 300
		anyone state => 0 0 2 0 0 0 2
	`)
	playInVain(t, h, `
		owner bridge x 0 0 0 0:1 => ErrTwice
		owner bridge x 1000001 0 0 0:1 => ErrTwice
		owner bridge y 1000001 0 0 0:1 => ErrArg
		owner bridge y 0 1000001 0 0:1 => ErrArg
		owner bridge y 0 0 1000001 0:1 => ErrArg
		owner bridge y 0 0 0 1:1 => ErrArg
		owner bridge y 0 0 0 0:-1/9 => ErrArg
		owner bridge y 0 0 0 0:1,0:2 => ErrArg
		owner bridge y 0 0 0 0:1,30:1,20:1 => ErrArg
		owner bridge y 0 0 0 0:1,301:1 => ErrArg
		owner bridge y 0 0 0 0:1,999999999:1 => ErrArg
		owner bridge y 0 0 0 `+most+`,299:1 => ErrArg
	`)
	play(t, h, repeat(17, "owner bridge b# 0 0 0 0:1")+`
		owner bridge y 0 0 0 0:1 => ErrFull
		owner bridge y 0 0 0 1:1 => ErrArg
		owner bridge b16 0 0 0 0:1 => ErrTwice
		anyone bridge y => ErrNone
		anyone bridge b16 => 1 0 open
		anyone state => 0 0 19 0 0 0 19
	`)
}

// TestP12_3Members adds members: each of them makes a new version.
func TestP12_3Members(t *testing.T) {
	h := played(t, `
		owner bridge other 0 0 0 0:2
		owner bridge old 10 20 5 0:1,30:5/4
		anyone rate old `+truck+` 0 50 => unlimited
		owner member old 0@0..0,5@1..1,10@0..0 2..3 0 20
		anyone bridge old => 2 1 open
		anyone rate old `+truck+` 0 20 => 17/12
		anyone rate old `+truck+` 0 50 => 17/15
		anyone post old `+truck+` => 300
		owner member old 0@0..0,5@1..1,10@0..0 2..3 0 17
		anyone bridge old => 3 2 open
		anyone rate old `+truck+` 0 20 => 7/6
		anyone rate old `+truck+` 0 50 => 14/15
		anyone post old `+truck+` => 29
		owner member old 0@0..0,5@-1..-1/2,10@0..0 -2..-1 -8 0
		anyone bridge old => 4 3 open
		anyone rate old `+truck+` 0 20 => 1/2
		owner member old 0@0..0,1@0..0 0..0 1 0
		anyone bridge old => 5 4 open
		anyone rate old `+truck+` 0 20 => ErrWeak
		anyone post old `+truck+` => -1
		anyone bridge other => 1 0 open
		anyone rate other `+truck+` 0 20 => unlimited
	`)
	playInVain(t, h, `
		owner member new 0@0..0,5@1..1,10@0..0 2..3 0 20 => ErrNone
		owner member new 0@0..0 2..3 0 20 => ErrNone
		owner member old 0@0..0 2..3 0 20 => ErrArg
		owner member old 0@0..0,5@1..1 2..3 0 20 => ErrArg
		owner member old 0@0..1,5@1..1,10@0..0 2..3 0 20 => ErrArg
		owner member old 0@0..0,5@1..1,5@0..0 2..3 0 20 => ErrArg
		owner member old 5@0..0,0@0..0 2..3 0 20 => ErrArg
		owner member other 0@0..0 2..3 0 20 => ErrArg
	`)
	play(t, h, repeat(8, "owner member old 0@0..0,5@1..1,10@0..0 0..0 0 1#")+`
		anyone bridge old => 13 12 open
		owner member old 0@0..0,5@1..1,10@0..0 0..0 0 18 => ErrArg
		anyone bridge old => 13 12 open
		anyone bridge other => 1 0 open
	`)
}

// TestP12_3Points adds a member with as many points as a line may have, and one
// with more.
func TestP12_3Points(t *testing.T) {
	line := "0@0..0"
	for i := 1; i < 59; i++ {
		line += "," + strconv.Itoa(i) + "@-1..2"
	}
	play(t, house.New(), `
		owner bridge old 0 0 0 0:1
		owner member old `+line+`,59@0..0 0..0 -9 9
		owner member old `+line+`,59@1..1,60@0..0 0..0 -9 9 => ErrArg
		anyone bridge old => 2 1 open
		anyone rate old 3..4+1,0..1+0 0 0 => 9/10
	`)
}

// TestP12_3Bear changes what members bear, and nothing else of them.
func TestP12_3Bear(t *testing.T) {
	h := played(t, oldBridge, `
		owner member old 0@0..0,5@-1..-1,10@0..0 0..0 -30 0
		anyone bridge old => 3 2 open
		anyone rate old `+truck+` 0 50 => 14/15
		owner bear old 0 0 20
		anyone bridge old => 4 2 open
		anyone rate old `+truck+` 0 50 => 17/15
		owner bear old 1 -15 0
		anyone bridge old => 5 2 open
		anyone rate old `+truck+` 0 50 => 1
		anyone post old `+truck+` => 300
		owner bear old 1 -14 1/3
		anyone rate old `+truck+` 0 50 => 14/15
		anyone post old `+truck+` => 29
		owner bear old 0 3 2
		anyone rate old `+truck+` 0 50 => ErrWeak
		owner bear old 0 3 20
		anyone rate old `+truck+` 0 50 => ErrWeak
		owner bear old 0 2 20
		anyone rate old `+truck+` 0 50 => 14/15
		anyone bridge old => 9 2 open
	`)
	playInVain(t, h, `
		owner bear new 0 0 20 => ErrNone
		owner bear old 2 0 20 => ErrNone
		owner bear old 999999999 0 20 => ErrNone
	`)
	play(t, house.New(), `
		owner bridge none 0 0 0 0:1
		owner bear none 0 0 1 => ErrNone
		anyone bridge none => 1 0 open
	`)
}

// TestP12_4Laws adds laws, as long as there is no element.
func TestP12_4Laws(t *testing.T) {
	steps := "0:0..1"
	for i := 1; i < 30; i++ {
		steps += "," + strconv.Itoa(i) + ":" + strconv.Itoa(i) + ".." + strconv.Itoa(i+1)
	}
	play(t, house.New(), `
		owner bridge old 0 0 0 0:1
		owner element weld old 0 1..2 5 => ErrArg
		owner law 1:1..2 => ErrArg
		owner law 0:-1..2 => ErrArg
		owner law 0:1..2,0:1..2 => ErrArg
		owner law 0:1..2,5:0..2 => ErrArg
		owner law 0:1..2,5:1..1 => ErrArg
		owner law `+steps+`,30:30..31 => ErrArg
		anyone state => 0 0 1 0 0 0 1
		owner law 0:1..2
		owner law 0:0..1/2,3/2:1/2..1
		owner law `+steps+`
		owner element weld old 3 1..2 5 => ErrArg
		owner law 0:0..0
		operator tick
		owner law 0:1..2
		owner law 0:1..2
		owner law 0:1..2
		owner law 0:3..3
		owner law 0:1..2 => ErrFull
		owner law 1:1..2 => ErrArg
		owner element weld old 0 1..2 5
		owner element beam old 1 1..2 5
		owner element post old 2 1..2 5
		owner element bolt old 7 1..2 5
		owner law 0:1..2 => ErrState
		owner law 1:1..2 => ErrState
		anyone due => bolt 1; post 1; weld 1; beam 3
		anyone state => 0 0 1 4 0 1 14
	`)
}

// TestP12_4Elements adds elements up to the limit, and wrong ones.
func TestP12_4Elements(t *testing.T) {
	h := played(t, oldBridge, crackedWeld, `
		owner element x old 0 0..0 0
		owner element y old 0 7/2..4 7/2
		anyone due => x 0; weld 1
		anyone alarms => y
	`)
	playInVain(t, h, `
		owner element z new 0 1..2 5 => ErrNone
		owner element z new 1 1..2 5 => ErrNone
		owner element weld new 0 1..2 5 => ErrNone
		owner element z old 1 1..2 5 => ErrArg
		owner element z old 999999999 1..2 5 => ErrArg
		owner element z old 0 -1..2 5 => ErrArg
		owner element z old 0 1..2 -5 => ErrArg
		owner element weld old 1 1..2 5 => ErrArg
		owner element weld old 0 1..2 5 => ErrTwice
		owner element x old 0 0..0 0 => ErrTwice
	`)
	play(t, h, repeat(57, "owner element e# old 0 0..1 5")+`
		anyone state => 2 1 1 60 0 0 66
		owner element z old 0 1..2 5 => ErrFull
		owner element z old 1 1..2 5 => ErrArg
		owner element e56 old 0 1..2 5 => ErrTwice
		owner element z new 0 1..2 5 => ErrNone
		anyone state => 2 1 1 60 0 0 66
	`)
	// An element that could not be added leaves no watch behind.
	play(t, house.New(), `
		owner bridge old 0 0 0 0:1
		owner law 0:1..2
		owner element weld old 1 1..2 5 => ErrArg
		owner element weld old 0 -1..2 5 => ErrArg
		owner element weld new 0 1..2 5 => ErrNone
		owner law 0:1..3
		owner element weld old 1 1..2 5
		anyone due => weld 1
	`)
}

// TestP12_4Fix repairs elements.
func TestP12_4Fix(t *testing.T) {
	h := played(t, oldBridge, "owner fix weld 0..1 => ErrNone\n", crackedWeld, `
		owner element beam old 0 1..2 5
		operator tick
		operator tick
		anyone alarms => beam; weld
		owner fix weld 0..1/2
		anyone alarms => beam
		anyone due => weld 2
		operator inspect weld - => 0..1/2
		operator inspect beam - => 3..6
	`)
	playInVain(t, h, `
		owner fix bolt 0..1 => ErrNone
		owner fix old 0..1 => ErrNone
		owner fix bolt -1..1 => ErrNone
		owner fix weld -1..1 => ErrArg
		owner fix beam -1/9..0 => ErrArg
	`)
	play(t, h, `
		owner fix weld 6..7
		anyone alarms => beam; weld
		owner fix beam 5..5
		anyone alarms => weld
		anyone due => beam 0
		operator tick
		operator inspect weld - => 7..9
		operator inspect beam - => 6..7
	`)
}

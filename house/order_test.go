package house_test

import (
	"slices"
	"strings"
	"testing"

	"voussoir/api"
	"voussoir/house"
)

// TestP12_1New checks that there is nothing in a new house, and that its weather
// is calm.
func TestP12_1New(t *testing.T) {
	play(t, house.New(), `
		anyone state => 0 0 0 0 0 0 0
		anyone due => nothing
		anyone alarms => nothing
		anyone bridge old => ErrNone
		anyone log 0 => ErrNone
		anyone log 1 => ErrNone
		haulier drive 1 => ErrNone
		police strain 1 1 2 => ErrState
		owner bridge x 0 0 0 0:1
		anyone bridge x => 1 0 open
		anyone state => 0 0 1 0 0 0 1
		operator weather 0 0 1
		anyone bridge x => 1 0 shut
	`)
	one, other := house.New(), house.New()
	play(t, one, "owner place a")
	play(t, other, "anyone state => 0 0 0 0 0 0 0")
}

// TestP12_1Nil checks that a nil house answers everything with ErrNil.
func TestP12_1Nil(t *testing.T) {
	var h *house.House
	for _, order := range []string{"", "anyone state", "owner place a", "owner tick", "owner  place a", strings.Repeat("a", api.MaxOrder+1), "anyone then 0 state"} {
		if got := tell(h, order); got != "ErrNil" {
			t.Errorf("%s answers %s", short(order), got)
		}
	}
}

// longSite returns a valid order with so many bytes.
func longSite(bytes int) string {
	tail := "," + longNumber(60, 99) + "@0"
	order := "police site 0@0,1@"
	for i := 0; ; i++ {
		if room := bytes - len(order) - len(tail); room <= 60 {
			return order + longNumber(room, 0) + tail
		}
		tail = "," + longNumber(60, 98-i) + "@" + longNumber(60, i) + tail
	}
}

// TestP12_1Long gives orders that are just short enough, and too long ones.
func TestP12_1Long(t *testing.T) {
	if fits, long := longSite(4000), longSite(4001); len(fits) != 4000 || len(long) != 4001 {
		t.Fatal(len(fits), len(long))
	}
	loads := truck
	for len(loads) < api.MaxOrder {
		loads += "," + truck
	}
	post := "post x " + loads[:3993-len("anyone post x ")-len("+0")] // cut off somewhere
	post = post[:strings.LastIndex(post, "+")] + "+"
	post += strings.Repeat("9", 3993-len("anyone ")-len(post))
	play(t, house.New(), longSite(4000)+`
		`+longSite(4001)+` => ErrLong
		`+longSite(9000)+` => ErrLong
		`+strings.Repeat("a", 4000)+` => ErrForm
		`+strings.Repeat("a", 4001)+` => ErrLong
		`+strings.Repeat(" ", 4001)+` => ErrLong
		owner tick `+strings.Repeat("a", 4000)+` => ErrLong
		owner tick `+strings.Repeat("a", 3900)+` => ErrRole
		anyone `+post+` => ErrNone
		anyone then 0 `+post+` => ErrNone
		anyone then 9 `+post+` => ErrRange
		anyone then 10 `+post+` => ErrLong
		anyone state => 0 0 0 0 0 0 1
	`)
}

// TestP12_1Spaces gives orders with spaces too many, or with too few words, or
// unknown ones.
func TestP12_1Spaces(t *testing.T) {
	h := house.New()
	for _, order := range []string{
		"", " ", "  ", "owner", " owner", "owner ", "place", " place", "owner  place a", " owner place a", "owner place a ", "owner place  a", "owner place ", "operator tick ", " operator tick", "operator  tick",
		"anyone state ", "anyone  state", " anyone state", "anyone then 0 state ", "anyone then 0  state", "anyone then  0 state", "anyone then 0 ",
		"owner\tplace a", "owner place\ta", "owner place a\n", "\nowner place a", "owner place a\x00", "Owner place a", "owner Place a", "owners place a", "own place a", "owner places a", "owner plac a",
		"nobody state", "anyone nothing", "place owner a", "owner owner", "place place a", "owner tock", "anyone anyone state", "anyone owner place a", "owner place a owner place b", "-", "- -", "owner -", "\xff \xff",
	} {
		if got := tell(h, order); got != "ErrForm" {
			t.Errorf("%q answers %s", order, got)
		}
	}
	play(t, h, "anyone state => 0 0 0 0 0 0 0")
}

// TestP12_1Words gives each order too few words, too many, and words that have
// or have not the form that it wants.
func TestP12_1Words(t *testing.T) {
	for _, f := range forms() {
		list := strings.Fields(f)
		right := strings.Fields(orderWith(f, -1, ""))
		for n := 2; n < len(list); n++ {
			checkForm(t, strings.Join(right[:n], " "), false)
		}
		checkForm(t, strings.Join(right, " "), true)
		checkForm(t, strings.Join(right, " ")+" 1", false)
		checkForm(t, strings.Join(right, " ")+" a", false)
		checkForm(t, strings.Join(append(slices.Clone(right[:2]), right[1:]...), " "), false)
		for place, form := range list[2:] {
			fit, wrong := fitting(form)
			for _, word := range fit {
				checkForm(t, orderWith(f, place, word), true)
			}
			for _, word := range wrong {
				checkForm(t, orderWith(f, place, word), false)
			}
		}
	}
}

// checkForm checks whether an order has the right form.
func checkForm(t *testing.T, order string, right bool) {
	t.Helper()
	a := house.New().Order(order)
	if isRight := a.Err != api.ErrForm; isRight != right || a.Err == api.ErrRole || a.Err == api.ErrLong {
		t.Errorf("%q answers %s", order, answerText(a))
	}
}

// TestP12_1Numbers checks that words stand for the numbers that they have.
func TestP12_1Numbers(t *testing.T) {
	long, most := longNumber(59, 3)+".."+longNumber(60, 4), "abcdefghijklmnopqrst"
	play(t, house.New(), `
		owner bridge `+most+` 1000000 1000000 999999 0:1
		operator weather 1000000 1000000 999999
		anyone bridge `+most+` => 1 0 open
		operator weather 1000000 1000000 1000000
		anyone bridge `+most+` => 1 0 shut
		owner law 0:0..0
		owner element crack `+most+` 0 `+long+` `+longNumber(60, 5)+`
		operator inspect crack - => `+long+`
		owner fix crack 0..1/3
		operator inspect crack 1/7..22/7 => 1/7..1/3
		police site -1/2@0,1/3@`+longNumber(60, 1)+`,4@0
		police strain 1/3 1 2
		police accuse -|1|0..`+longNumber(60, 1)+` 0 0,0,0,0,0,0 0 => accused
	`)
}

// TestP12_1Role gives each order to all roles that do not have it: what its words
// are does not matter then.
func TestP12_1Role(t *testing.T) {
	own := map[string][]string{}
	for _, f := range forms() {
		words := strings.Fields(f)
		own[words[1]] = append(own[words[1]], words[0])
	}
	for _, f := range forms() {
		words := strings.Fields(orderWith(f, -1, ""))
		for _, role := range []string{"owner", "operator", "police", "haulier", "anyone"} {
			if slices.Contains(own[words[1]], role) {
				continue
			}
			h := played(t, oldBridge, crackedWeld)
			before := asked(h)
			for _, order := range []string{role + " " + strings.Join(words[1:], " "), role + " " + words[1], role + " " + words[1] + " A B"} {
				if got := tell(h, order); got != "ErrRole" {
					t.Errorf("%s answers %s", order, got)
				}
			}
			if after := asked(h); after != before {
				t.Errorf("%s as %s: %s\nbecame\n%s", words[1], role, before, after)
			}
		}
	}
	play(t, house.New(), `
		owner tick => ErrRole
		owner tick now => ErrRole
		owner tick  => ErrForm
		owner tock => ErrForm
		nobody tick => ErrForm
		haulier bridge x => ErrRole
		haulier bridge x 0 0 0 0:1 => ErrRole
		anyone bridge x 0 0 0 0:1 => ErrForm
		owner bridge x => ErrForm
	`)
}

// TestP12_1Full fills the log: then only questions are answered, and of other
// orders only the errors that come before.
func TestP12_1Full(t *testing.T) {
	h := played(t, oldBridge, "haulier ask a b "+truck+" 0 20 => 1 0\n", repeat(199, "operator weather # 0 0"), "operator weather 0 0 0", repeat(193, "haulier drive 1 => go"))
	play(t, h, `
		anyone state => 2 1 1 0 1 0 399
		owner place a => ErrTwice
		owner tick => ErrRole
		owner place c
		anyone state => 3 1 1 0 1 0 400
		owner place a => ErrFull
		owner place d => ErrFull
		owner place D => ErrForm
		owner place => ErrForm
		owner tick => ErrRole
		operator tick => ErrFull
		operator tick now => ErrForm
		operator weather 9999999 0 0 => ErrFull
		operator inspect x - => ErrFull
		police strain 1 2 3 => ErrFull
		haulier drive 1 => ErrFull
		haulier drive 2 => ErrFull
		haulier ask a b `+truck+` 0 20 => ErrFull
		anyone state => 3 1 1 0 1 0 400
		anyone bridge old => 2 1 open
		anyone bridge x => ErrNone
		anyone bridge X => ErrForm
		anyone log 400 => 0 owner place c
		anyone log 401 => ErrNone
		anyone then 400 state => 3 1 1 0 1 0 400
		anyone then 399 state => 2 1 1 0 1 0 399
		anyone then 401 state => ErrRange
		anyone then 401 tick => ErrForm
	`)
}

// TestP12_1Play checks that Play begins with a new house and answers each order.
func TestP12_1Play(t *testing.T) {
	lines := []string{"owner place a", "owner place a", "", "anyone state", "owner tick", "operator tick", "anyone due", "anyone state"}
	want := []string{"ok", "ErrTwice", "ErrForm", "1 0 0 0 0 0 1", "ErrRole", "ok", "nothing", "1 0 0 0 0 1 2"}
	for range 2 {
		var got []string
		for _, a := range house.Play(lines) {
			got = append(got, answerText(a))
		}
		if !slices.Equal(got, want) {
			t.Errorf("%q\nnot\n%q", got, want)
		}
	}
	for _, none := range [][]string{nil, {}} {
		if a := house.Play(none); len(a) != 0 {
			t.Error(a)
		}
	}
	if strings.Join(lines, ";") != "owner place a;owner place a;;anyone state;owner tick;operator tick;anyone due;anyone state" {
		t.Error(lines)
	}
}

package crack_test

import (
	"math/rand"
	"slices"
	"strconv"
	"strings"
	"testing"

	"voussoir/api"
	"voussoir/crack"
	"voussoir/exact"
)

// newWatch returns a watch with laws of texts.
func newWatch(t *testing.T, grid string, laws ...string) *crack.Watch {
	t.Helper()
	var list [][]crack.Step
	for _, s := range laws {
		list = append(list, law(s))
	}
	w, e := crack.NewWatch(list, num(grid))
	if e != api.OK || w == nil {
		t.Fatalf("error %d", e)
	}
	return w
}

// add adds elements of texts: name, law, size and critical size.
func add(t *testing.T, w *crack.Watch, texts ...string) {
	t.Helper()
	for _, s := range texts {
		words := strings.Fields(s)
		if e := w.Add(words[0], integer(words[1]), span(words[2]), num(words[3])); e != api.OK {
			t.Fatalf("%s: error %d", s, e)
		}
	}
}

// lists returns the elements that are due and the alarms as one text.
func lists(w *crack.Watch) string { return dueTexts(w.Due()) + "; " + strings.Join(w.Alarms(), " ") }

// checkLists checks which elements are due, and which ones are among the alarms.
func checkLists(t *testing.T, w *crack.Watch, want string) {
	t.Helper()
	if got := lists(w); got != want {
		t.Errorf("%q, not %q", got, want)
	}
}

// checkSize checks the span of an element.
func checkSize(t *testing.T, w *crack.Watch, name, want string) {
	t.Helper()
	if s, e := w.Size(name); e != api.OK || spanText(s) != want {
		t.Errorf("%s: %s, error %d, not %s", name, spanText(s), e, want)
	}
}

func TestP7_8NewWatch(t *testing.T) {
	fine := law(steep)
	refuse := func(laws [][]crack.Step, grid string, want api.Errno) {
		t.Helper()
		if w, e := crack.NewWatch(laws, num(grid)); e != want || w != nil {
			t.Errorf("%d laws, grid %s: error %d, not %d; %v", len(laws), grid, e, want, w)
		}
	}
	for n := range api.MaxTeams + 1 {
		w, e := crack.NewWatch(slices.Repeat([][]crack.Step{fine}, n), num("1/2"))
		if e != api.OK || w == nil {
			t.Fatalf("%d laws: error %d", n, e)
		}
		checkLists(t, w, "; ")
		for law := range api.MaxTeams + 1 {
			want := api.ErrArg
			if law < n {
				want = api.OK
			}
			if e := w.Add("law"+strconv.Itoa(law), law, span("1..2"), num("9")); e != want {
				t.Errorf("law %d of %d: error %d", law, n, e)
			}
		}
	}
	refuse(slices.Repeat([][]crack.Step{fine}, api.MaxTeams+1), "0", api.ErrLong)
	refuse(slices.Repeat([][]crack.Step{nil}, api.MaxTeams+1), "-1", api.ErrLong)
	refuse(make([][]crack.Step, 1000), "0", api.ErrLong)
	for _, wrong := range wrongLaws() {
		refuse([][]crack.Step{wrong}, "0", api.ErrArg)
		refuse([][]crack.Step{fine, wrong}, "0", api.ErrArg)
		refuse([][]crack.Step{wrong, fine, fine}, "-1", api.ErrArg)
	}
	refuse([][]crack.Step{fine}, "-1", api.ErrRange)
	refuse(nil, "-1/1000", api.ErrRange)
}

func TestP7_8Add(t *testing.T) {
	w := newWatch(t, "0", steep, "0:0..1")
	refuse := func(name string, law int, size exact.Span, critical string, want api.Errno) {
		t.Helper()
		before := lists(w)
		if e := w.Add(name, law, size, num(critical)); e != want {
			t.Errorf("%q, law %d, %s, %s: error %d, not %d", name, law, spanText(size), critical, e, want)
		}
		checkLists(t, w, before)
	}
	long := strings.Repeat("a", 20)
	for _, name := range []string{"a", "z", "weld", "a_", "a0", "z9_", "m__m", "a123456789012345678_", long} {
		add(t, w, name+" 0 1..2 9")
		checkSize(t, w, name, "1..2")
		refuse(name, 0, span("1..2"), "9", api.ErrTwice)
		refuse(name, 1, span("0..0"), "0", api.ErrTwice)
		refuse(name, 2, span("1..2"), "9", api.ErrArg)
	}
	for _, name := range []string{
		"", "_", "0", "9a", "_a", "A", "aB", "a b", " a", "a ", "a-b", "a.b", "a\x00", "a\n", "ä", "aä", "a\xff", "\xff", "`", "{", "a`", "a{", "a/", "a:", "@a", "a[",
		long + "a", long + long, strings.Repeat("b", 1000), "ſ", "a٣",
	} {
		refuse(name, 0, span("1..2"), "9", api.ErrArg)
		if s, e := w.Size(name); e != api.ErrNone || !isZero(s) {
			t.Errorf("%q: %s, error %d", name, spanText(s), e)
		}
	}
	for _, law := range append(extremeInts(), 2, 3, 8) {
		refuse("new", law, span("1..2"), "9", api.ErrArg)
	}
	for _, size := range wrongSizes() {
		refuse("new", 0, size, "9", api.ErrArg)
	}
	for _, critical := range []string{"-1", "-1/1000", "-340282366920938463463374607431768211456"} {
		refuse("new", 0, span("1..2"), critical, api.ErrArg)
		refuse("a", 0, span("1..2"), critical, api.ErrArg)
	}
	add(t, w, "at_once 0 0..0 0", "over 1 1..2 1") // also one above its critical size
	checkSize(t, w, "over", "1..2")
}

func TestP7_8Full(t *testing.T) {
	w := newWatch(t, "0", steep)
	for n := range api.MaxCracked {
		add(t, w, "n"+strconv.Itoa(n)+" 0 1..2 9")
	}
	before := lists(w)
	for _, c := range []struct {
		name string
		law  int
		want api.Errno
	}{{"more", 0, api.ErrFull}, {"n0", 0, api.ErrTwice}, {"n59", 0, api.ErrTwice}, {"n60", 0, api.ErrFull}, {"n60", 1, api.ErrArg}, {"N", 0, api.ErrArg}} {
		if e := w.Add(c.name, c.law, span("1..2"), num("9")); e != c.want {
			t.Errorf("%s: error %d, not %d", c.name, e, c.want)
		}
	}
	checkLists(t, w, before)
	if n := len(w.Due()); n != api.MaxCracked {
		t.Error("elements", n)
	}
}

func TestP7_8Size(t *testing.T) {
	w := newWatch(t, "0", steep)
	add(t, w, "weld 0 1/3..7/2 9", "bolt 0 0..0 9")
	checkSize(t, w, "weld", "1/3..7/2")
	checkSize(t, w, "bolt", "0..0")
	for _, name := range []string{"", "wel", "weld_", "Weld", "x"} {
		if s, e := w.Size(name); e != api.ErrNone || !isZero(s) {
			t.Errorf("%q: %s, error %d", name, spanText(s), e)
		}
	}
}

func TestP7_9Tick(t *testing.T) {
	for _, c := range []struct{ grid, want string }{{"0", "9..11 1/2..3/2 10..16 1/2..5/2"}, {"2", "8..12 0..2 8..18 0..4"}} {
		w := newWatch(t, c.grid, steep, "0:0..1")
		w.Tick() // no elements
		add(t, w, "a 0 8..9 16", "b 1 1/2..1/2 2")
		checkSize(t, w, "a", "8..9")
		var sizes []exact.Span
		for range 2 {
			w.Tick()
			for _, name := range []string{"a", "b"} {
				s, _ := w.Size(name)
				sizes = append(sizes, s)
			}
		}
		if spanTexts(sizes) != c.want {
			t.Errorf("grid %s: %s, not %s", c.grid, spanTexts(sizes), c.want)
		}
	}
}

// TestP7_9TickSome lets many periods pass.
func TestP7_9TickSome(t *testing.T) {
	r := rand.New(rand.NewSource(79))
	for range 20 {
		l, size, grid := someLaw(r, 1+r.Intn(6)), someSize(r, 20), someGrid(r)
		w, e := crack.NewWatch([][]crack.Step{law(steep), l}, grid)
		if e != api.OK || w.Add("x", 1, size, whole(7)) != api.OK {
			t.Fatal(e)
		}
		for n := range 250 {
			if n <= api.MaxAhead && n%20 == 0 {
				want, _ := crack.Grow(l, size, n, grid)
				checkSize(t, w, "x", spanText(want))
			}
			w.Tick()
		}
	}
}

// checkInspect checks what Inspect returns, and the span that it leaves.
func checkInspect(t *testing.T, w *crack.Watch, name, findings, want string) {
	t.Helper()
	a, e := w.Inspect(name, spans(findings))
	if e != api.OK || agreementText(a) != want {
		t.Errorf("%s, findings %s: %s, error %d, not %s", name, findings, agreementText(a), e, want)
	}
	checkSize(t, w, name, spanText(a.Size))
}

func TestP7_9Inspect(t *testing.T) {
	w := newWatch(t, "0", steep)
	add(t, w, "a 0 8..9 16", "b 0 8..9 16")
	w.Tick()
	checkInspect(t, w, "a", "10..12 8..10 13..14", "10..10 by 0 1, doubt")
	checkInspect(t, w, "a", "", "10..10 by ")
	checkInspect(t, w, "a", "8..9", "10..10 by , doubt")
	checkSize(t, w, "b", "9..11")
	w.Tick()
	checkSize(t, w, "a", "12..15")
	checkSize(t, w, "b", "10..16")
	checkInspect(t, w, "b", "0..12 11..40", "11..12 by 0 1")
	refuse := func(name string, findings []exact.Span, want api.Errno) {
		t.Helper()
		if a, e := w.Inspect(name, findings); e != want || !isNothing(a) {
			t.Errorf("%s, findings %s: error %d, not %d; %s", name, spanTexts(findings), e, want, agreementText(a))
		}
		checkSize(t, w, "a", "12..15")
		checkSize(t, w, "b", "11..12")
	}
	many := slices.Repeat(spans("13..14"), api.MaxFindings+1)
	refuse("c", nil, api.ErrNone)
	refuse("", nil, api.ErrNone)
	refuse("c", many, api.ErrNone)
	refuse("c", spans("2..1"), api.ErrNone)
	refuse("a", many, api.ErrLong)
	refuse("a", append(many, span("2..1")), api.ErrLong)
	for _, wrong := range wrongSizes() {
		refuse("a", []exact.Span{wrong}, api.ErrArg)
		refuse("a", []exact.Span{span("13..14"), wrong}, api.ErrArg)
	}
}

func TestP7_9Repair(t *testing.T) {
	w := newWatch(t, "5", steep)
	add(t, w, "a 0 8..9 16", "b 0 8..9 16")
	for _, size := range []string{"0..0", "1/3..1/2", "7..7", "0..340282366920938463463374607431768211456", "3..99"} {
		if e := w.Repair("a", span(size)); e != api.OK {
			t.Errorf("%s: error %d", size, e)
		}
		checkSize(t, w, "a", size)
		checkSize(t, w, "b", "8..9")
	}
	for _, wrong := range wrongSizes() {
		for name, want := range map[string]api.Errno{"a": api.ErrArg, "b": api.ErrArg, "c": api.ErrNone, "": api.ErrNone} {
			if e := w.Repair(name, wrong); e != want {
				t.Errorf("%q to %s: error %d, not %d", name, spanText(wrong), e, want)
			}
		}
		checkSize(t, w, "a", "3..99")
	}
	if e := w.Repair("c", span("1..2")); e != api.ErrNone {
		t.Errorf("error %d", e)
	}
	if s, e := w.Size("c"); e != api.ErrNone {
		t.Errorf("%s, error %d", spanText(s), e)
	}
	if e := w.Repair("a", span("0..1")); e != api.OK {
		t.Errorf("error %d", e)
	}
	w.Tick()
	checkSize(t, w, "a", "0..5")
}

func TestP7_10Lists(t *testing.T) {
	w := newWatch(t, "0", steep, "0:0..0", "0:1..1")
	add(t, w, "soon 0 8..9 16", "never 1 1..2 2", "often 1 0..0 0", "now 2 1..1 1", "also_now 0 0..15 16", "later 2 0..2 9", "b 0 8..9 15", "a 0 8..9 11", "z 2 0..0 100", "c0 1 2..3 3")
	checkLists(t, w, "also_now 0 now 0 a 1 b 1 soon 2 later 7 z 100 c0 200 never 200 often 200; ")
	w.Tick()
	checkLists(t, w, "a 0 b 0 soon 1 later 6 z 99 c0 200 never 200 often 200; also_now now")
	w.Tick()
	checkLists(t, w, "soon 0 later 5 z 98 c0 200 never 200 often 200; a also_now b now")
	w.Tick()
	checkLists(t, w, "later 4 z 97 c0 200 never 200 often 200; a also_now b now soon")
	checkInspect(t, w, "b", "12..29/2", "12..29/2 by 0")
	checkLists(t, w, "b 0 later 4 z 97 c0 200 never 200 often 200; a also_now now soon")
	if e := w.Repair("now", span("0..1")); e != api.OK {
		t.Error(e)
	}
	if e := w.Repair("c0", span("0..10/3")); e != api.OK {
		t.Error(e)
	}
	checkLists(t, w, "b 0 now 0 later 4 z 97 never 200 often 200; a also_now c0 soon")
	for range 400 {
		w.Tick()
	}
	checkLists(t, w, "never 200 often 200; a also_now b c0 later now soon z")
}

// TestP7_10Grid checks that the grid counts for deadlines.
func TestP7_10Grid(t *testing.T) {
	for grid, want := range map[string]string{"0": "b 2 a 6; ", "1": "b 1 a 2; ", "1/2": "b 2 a 4; ", "9": "a 0 b 0; "} {
		w := newWatch(t, grid, "0:0..1/3", "0:1/2..1")
		add(t, w, "a 0 0..0 2", "b 1 0..1/2 5/2")
		checkLists(t, w, want)
	}
}

// TestP7_10Some checks that each element is in one of both lists, and in order.
func TestP7_10Some(t *testing.T) {
	r := rand.New(rand.NewSource(710))
	for range 30 {
		laws, grid := [][]crack.Step{someLaw(r, 3), someLaw(r, 2), law("0:0..0")}, someGrid(r)
		w, _ := crack.NewWatch(laws, grid)
		which, critical := map[string]int{}, map[string]exact.Q{}
		for n := range 1 + r.Intn(20) {
			name := string(rune('a'+r.Intn(26))) + strconv.Itoa(n)
			which[name], critical[name] = r.Intn(3), someQ(r, 0, 20)
			if e := w.Add(name, which[name], someSize(r, 12), critical[name]); e != api.OK {
				t.Fatal(e)
			}
		}
		for range 5 {
			var due []api.Due
			var alarms []string
			for name := range which {
				size, _ := w.Size(name)
				if n := deadline(laws[which[name]], endsOf(size), rat(critical[name]), rat(grid)); n < 0 {
					alarms = append(alarms, name)
				} else {
					due = append(due, api.Due{Name: name, Deadline: n})
				}
			}
			slices.Sort(alarms)
			slices.SortFunc(due, func(a, b api.Due) int {
				if a.Deadline != b.Deadline {
					return a.Deadline - b.Deadline
				}
				return strings.Compare(a.Name, b.Name)
			})
			checkLists(t, w, dueTexts(due)+"; "+strings.Join(alarms, " "))
			w.Tick()
		}
	}
}

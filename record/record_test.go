package record_test

import (
	"testing"

	"voussoir/api"
)

func TestP11_1New(t *testing.T) {
	r := made(bridges())
	if n := r.Versions(); n != 1 {
		t.Error(n, "versions")
	}
	checkFacts(t, r, 0, "")
	checkSubjects(t, r, 0, "")
	if _, e := r.Fact(1); e != api.ErrNone {
		t.Error("a fact of a new record", e)
	}
	made(nil)
}

func TestP11_2Commit(t *testing.T) {
	r := made(bridges())
	commit(t, r, 1, "0", "", "tay material=iron,wood", "tay material=steel,iron")
	commit(t, r, 2, "1", "1", "tay/pier_4 built=1870..1880")
	commit(t, r, 3, "0", "")
	commit(t, r, 4, "2 3", "")
	if n := r.Versions(); n != 5 {
		t.Error(n, "versions")
	}
	checkFacts(t, r, 0, "")
	checkFacts(t, r, 1, "1 2")
	checkFacts(t, r, 2, "2 3")
	checkFacts(t, r, 3, "")
	checkFacts(t, r, 4, "2 3")
}

// TestP11_2Example is the document's fourth example.
func TestP11_2Example(t *testing.T) {
	r := made(bridges())
	commit(t, r, 1, "0", "", "tay material=iron")
	commit(t, r, 2, "1", "1")
	commit(t, r, 3, "1", "", "tay built=1870..1880")
	commit(t, r, 4, "2 3", "")
	checkFacts(t, r, 1, "1")
	checkFacts(t, r, 2, "")
	checkFacts(t, r, 3, "1 2")
	checkFacts(t, r, 4, "2")
}

// TestP11_2Branches checks that a fact that a branch withdrew stays withdrawn, and
// holds on in the others.
func TestP11_2Branches(t *testing.T) {
	r := made(bridges())
	commit(t, r, 1, "0", "", "tay material=iron", "esk material=wood")
	commit(t, r, 2, "1", "1")
	commit(t, r, 3, "1", "2")
	commit(t, r, 4, "1", "")
	commit(t, r, 5, "2 4", "")                    // withdrawn by one of two parents
	commit(t, r, 6, "4 2", "1")                   // it holds in one of them: it can be withdrawn again
	commit(t, r, 7, "2 3 4 0", "")                // withdrawn by different ones
	commit(t, r, 8, "3 4", "2 1")                 // all that is left
	commit(t, r, 9, "4", "", "tay material=iron") // the same again is another fact
	checkFacts(t, r, 4, "1 2")
	checkFacts(t, r, 5, "2")
	checkFacts(t, r, 6, "2")
	checkFacts(t, r, 7, "")
	checkFacts(t, r, 8, "")
	checkFacts(t, r, 9, "1 2 3")
	commit(t, r, 10, "9 8", "")
	checkFacts(t, r, 10, "3")
}

func TestP11_3Fact(t *testing.T) {
	r := made(bridges())
	commit(t, r, 1, "0", "", "tay material=iron,wood", "tay/pier_4 built=1870..1880")
	commit(t, r, 2, "1", "2", "esk built=1800..2030")
	for i, want := range []string{"tay material=iron,wood", "tay/pier_4 built=1870..1880", "esk built=1800..2030"} {
		f, e := r.Fact(i + 1)
		if factText(f) != want || e != api.OK {
			t.Error(i+1, factText(f), e)
		}
	}
	for _, n := range []int{0, -1, 4, 1 << 62, -1 << 63} {
		if f, e := r.Fact(n); factText(f) != factText(api.Fact{}) || e != api.ErrNone {
			t.Error(n, factText(f), e)
		}
	}
}

func TestP11_3Subjects(t *testing.T) {
	r := made(bridges())
	commit(t, r, 1, "0", "", "tay/pier_4 material=iron", "esk material=wood", "tay/pier_4 built=1870..1880", "esk_2 material=wood")
	checkSubjects(t, r, 1, "esk esk_2 tay tay/pier_4")
	commit(t, r, 2, "1", "1")
	checkSubjects(t, r, 2, "esk esk_2 tay tay/pier_4")
	commit(t, r, 3, "2", "3")
	checkSubjects(t, r, 3, "esk esk_2")
	commit(t, r, 4, "1", "", "tay built=1870..1880", "tay/b material=wood", "tay0 material=wood", "tay_ material=wood", "taya material=wood", "ta material=wood")
	checkSubjects(t, r, 4, "esk esk_2 ta tay tay/b tay/pier_4 tay0 tay_ taya")
	checkSubjects(t, r, 0, "")
}

// TestP11_4Example is the document's first example.
func TestP11_4Example(t *testing.T) {
	r := recorded("tay material=iron,wood", "tay material=steel,iron")
	checkKnown(t, r, 1, "tay", "material", "iron 0..0 by 1 2")
	commit(t, r, 2, "1", "", "tay material=steel")
	checkKnown(t, r, 2, "tay", "material", "steel,iron,wood 0..0 by 1 2 3 in doubt")
	commit(t, r, 3, "2", "2 1")
	checkKnown(t, r, 3, "tay", "material", "steel 0..0 by 3")
}

func TestP11_4Known(t *testing.T) {
	r := recorded("tay built=1870..1880", "tay/a built=1800..1900", "tay built=1800..1875", "tay material=steel,wood", "tay/a built=1900..2030", "tay built=1872..2000")
	checkKnown(t, r, 1, "tay", "built", " 1872..1875 by 1 3 6")
	checkKnown(t, r, 1, "tay", "material", "steel,wood 0..0 by 4")
	checkKnown(t, r, 1, "tay/a", "built", " 1900..1900 by 2 5")
	checkKnown(t, r, 1, "tay/a", "material", "steel,iron,wood 0..0 by ")
	checkKnown(t, r, 1, "tay/b", "built", " 1800..2030 by ")
	checkKnown(t, r, 1, "nobody", "built", " 1800..2030 by ")
	checkKnown(t, r, 0, "tay", "built", " 1800..2030 by ")
	commit(t, r, 2, "1", "", "tay/a built=1800..1899", "tay material=iron")
	checkKnown(t, r, 2, "tay/a", "built", " 1800..2030 by 2 5 7 in doubt")
	checkKnown(t, r, 2, "tay", "material", "steel,iron,wood 0..0 by 4 8 in doubt")
	checkKnown(t, r, 2, "tay", "built", " 1872..1875 by 1 3 6")
}

// TestP11_4Together checks facts of which each two allow a value, and all together none.
func TestP11_4Together(t *testing.T) {
	r := recorded("tay material=iron,wood", "tay material=steel,iron", "tay material=steel,wood")
	checkKnown(t, r, 1, "tay", "material", "steel,iron,wood 0..0 by 1 2 3 in doubt")
}

// TestP11_4Zero checks a count around 0, and one with a single value.
func TestP11_4Zero(t *testing.T) {
	r := made(schema("n=-5..5", "one=0..0", "least=-1000000..-1000000"))
	commit(t, r, 1, "0", "", "tay n=-5..0", "tay n=0..5", "tay one=0..0", "esk n=-5..-1", "esk n=1..2")
	checkKnown(t, r, 1, "tay", "n", " 0..0 by 1 2")
	checkKnown(t, r, 1, "tay", "one", " 0..0 by 3")
	checkKnown(t, r, 1, "tay", "least", " -1000000..-1000000 by ")
	checkKnown(t, r, 1, "esk", "n", " -5..5 by 4 5 in doubt")
}

package record_test

import "testing"

// anyway is true of any subject.
const anyway = "(or material=iron (not material=iron))"

// TestP11_5Example is the document's second example.
func TestP11_5Example(t *testing.T) {
	r := recorded("tay built=1870..1880")
	early := pattern("(and material=iron built=1800..1874)")
	checkLike(t, r, 1, "tay", early, "possibly")
	checkQuery(t, r, 1, early, "tay possibly")
	for _, subject := range []string{"tay", "esk", "a"} {
		checkLike(t, r, 1, subject, pattern("(or (not material=iron) material=iron)"), "surely")
		checkLike(t, r, 0, subject, pattern("(or (not material=iron) material=iron)"), "surely")
	}
}

// TestP11_5Parts is the document's third example.
func TestP11_5Parts(t *testing.T) {
	r := recorded("tay/pier_4 material=iron")
	one, two := pattern(anyway, "material=iron"), pattern(anyway, "material=iron", "material=wood")
	checkSubjects(t, r, 1, "tay tay/pier_4")
	checkLike(t, r, 1, "tay", one, "surely")
	checkLike(t, r, 1, "tay", two, "not")
	checkQuery(t, r, 1, one, "tay surely")
	checkQuery(t, r, 1, two, "")
	commit(t, r, 2, "1", "", "tay/pier_5 built=1870..1870")
	checkLike(t, r, 2, "tay", two, "possibly")
	checkQuery(t, r, 2, two, "tay possibly")
	checkCompare(t, r, 1, 2, two, "tay not possibly")
	checkCompare(t, r, 0, 2, one, "tay not surely")
}

// TestP11_5Own checks expressions about a subject alone.
func TestP11_5Own(t *testing.T) {
	r := recorded("tay material=iron,wood", "tay built=1870..1880", "tay/a material=steel", "esk material=iron", "esk material=wood", "esk built=1900..1900")
	for _, c := range []struct{ own, tay, esk string }{
		{"material=steel,iron,wood", "surely", "surely"},
		{"material=iron,wood", "surely", "possibly"}, // in doubt, all is possible
		{"material=steel", "not", "possibly"},
		{"material=steel,iron", "possibly", "possibly"},
		{"(not material=steel)", "surely", "possibly"},
		{"built=1800..1869", "not", "not"},
		{"built=1800..1870", "possibly", "not"},
		{"built=1870..1880", "surely", "not"},
		{"built=1871..1880", "possibly", "not"},
		{"built=1870..1879", "possibly", "not"},
		{"built=1880..1900", "possibly", "surely"},
		{"built=1881..1900", "not", "surely"},
		{"(or built=1800..1875 built=1876..1900)", "surely", "surely"},
		{"(or built=1800..1874 built=1876..1900)", "possibly", "surely"},
		{"(and built=1800..1875 built=1876..1900)", "not", "not"},
		{"(and (not built=1800..1875) (not built=1876..1900))", "not", "not"},
		{"(and material=iron material=wood)", "not", "not"},
		{"(not (and material=iron material=wood))", "surely", "surely"},
		{"(or material=iron material=wood)", "surely", "possibly"},
		{"(and material=iron)", "possibly", "possibly"},
		{"(or material=steel)", "not", "possibly"},
		{"(and material=iron,wood (or built=1870..1873 built=1874..1880))", "surely", "not"},
		{"(or (and material=iron built=1870..1875) (and material=wood built=1876..1880))", "possibly", "not"},
		{"(or (and material=iron built=1800..2030) (and (not material=iron) built=1800..2030))", "surely", "surely"},
		{"(not (not (not material=steel)))", "surely", "possibly"},
	} {
		p := pattern(c.own)
		checkLike(t, r, 1, "tay", p, c.tay)
		checkLike(t, r, 1, "esk", p, c.esk)
		// The same of a part, and of one of two parts.
		commit(t, r, r.Versions(), "0", "", "x/a material=iron,wood", "x/a built=1870..1880", "y/a material=iron", "y/a material=wood", "y/a built=1900..1900")
		last := r.Versions() - 1
		p = pattern(anyway, c.own)
		checkLike(t, r, last, "x", p, c.tay)
		checkLike(t, r, last, "y", p, c.esk)
	}
}

// TestP11_5SeveralParts checks which parts make expressions true.
func TestP11_5SeveralParts(t *testing.T) {
	r := recorded("tay/a material=iron", "tay/b material=steel,wood", "tay/c built=1900..1950", "esk/a material=iron,wood", "tay_2/a material=steel", "dee material=iron")
	for _, c := range []struct {
		parts         []string
		tay, esk, dee string
	}{
		{nil, "surely", "surely", "surely"},
		{[]string{"material=iron"}, "surely", "possibly", "not"},
		{[]string{"material=iron", "material=iron"}, "surely", "possibly", "not"}, // the same part may make both true
		{[]string{"material=iron", "material=wood"}, "possibly", "not", "not"},
		{[]string{"material=iron,wood"}, "surely", "surely", "not"},
		{[]string{"material=iron", "material=wood", "material=steel"}, "possibly", "not", "not"},
		{[]string{"material=iron", "material=steel,wood"}, "surely", "not", "not"},
		{[]string{"material=iron", "(not material=iron)"}, "surely", "not", "not"},
		{[]string{"(or material=iron (not material=iron))"}, "surely", "surely", "not"},
		{[]string{"built=1900..1950"}, "surely", "possibly", "not"},
		{[]string{"(and built=1900..1950 material=iron)"}, "possibly", "possibly", "not"},
		{[]string{"(and built=1800..1899 material=wood)", "built=1950..1960"}, "possibly", "not", "not"},
		{[]string{"(and material=iron material=wood)"}, "not", "not", "not"},
		{[]string{"material=wood", "material=steel", "(and built=1900..1900 (not material=steel,iron,wood))"}, "not", "not", "not"},
	} {
		p := pattern(anyway, c.parts...)
		checkLike(t, r, 1, "tay", p, c.tay)
		checkLike(t, r, 1, "esk", p, c.esk)
		checkLike(t, r, 1, "dee", p, c.dee)
		checkLike(t, r, 1, "nobody", p, c.dee)
	}
}

// TestP11_5Both checks the subject and its parts together: they have their values
// for themselves.
func TestP11_5Both(t *testing.T) {
	r := recorded("tay material=iron", "tay/a material=wood", "esk/a material=wood", "dee material=iron", "dee/a built=1900..1900")
	for _, c := range []struct{ own, part, tay, esk, dee string }{
		{"material=iron", "material=wood", "surely", "possibly", "possibly"},
		{"material=wood", "material=wood", "not", "possibly", "not"},
		{"material=iron", "material=iron", "not", "not", "possibly"},
		{"(not material=iron)", "(not material=wood)", "not", "not", "not"},
		{"material=iron", "material=steel,iron,wood", "surely", "possibly", "surely"},
		{anyway, "material=wood", "surely", "surely", "possibly"},
	} {
		p := pattern(c.own, c.part)
		checkLike(t, r, 1, "tay", p, c.tay)
		checkLike(t, r, 1, "esk", p, c.esk)
		checkLike(t, r, 1, "dee", p, c.dee)
	}
}

// TestP11_5Unrecorded checks that parts that are not among the Subjects of a version
// are not there, and that withdrawn ones no longer are.
func TestP11_5Unrecorded(t *testing.T) {
	r := recorded("tay/a material=iron", "tay/b material=wood")
	p := pattern(anyway, "material=iron")
	commit(t, r, 2, "1", "1")
	checkLike(t, r, 0, "tay", p, "not")
	checkLike(t, r, 1, "tay", p, "surely")
	checkLike(t, r, 2, "tay", p, "not")
	commit(t, r, 3, "2", "2")
	checkLike(t, r, 3, "tay", p, "not")
	checkQuery(t, r, 3, pattern(anyway), "")
	commit(t, r, 4, "3", "", "tay/a built=1900..1900")
	checkLike(t, r, 4, "tay", p, "possibly")
}

func TestP11_6Query(t *testing.T) {
	r := recorded("tay material=iron", "esk material=iron,wood", "dee material=wood", "don/a material=iron", "tay/a material=wood", "tay_2 material=iron")
	checkQuery(t, r, 1, pattern("material=iron"), "don possibly; esk possibly; tay surely; tay_2 surely")
	checkQuery(t, r, 1, pattern("material=wood"), "dee surely; don possibly; esk possibly")
	checkQuery(t, r, 1, pattern(anyway, "material=iron,wood"), "don surely; tay surely")
	checkQuery(t, r, 1, pattern("(and material=iron material=wood)"), "")
	checkQuery(t, r, 1, pattern(anyway), "dee surely; don surely; esk surely; tay surely; tay_2 surely")
	checkQuery(t, r, 0, pattern(anyway), "")
}

func TestP11_7Compare(t *testing.T) {
	r := recorded("tay material=iron", "esk material=iron,wood", "dee material=wood")
	commit(t, r, 2, "1", "1", "esk material=steel,iron", "ayr material=steel", "don/a material=iron")
	iron := pattern("material=iron")
	checkCompare(t, r, 1, 2, iron, "ayr possibly not; esk possibly surely; tay surely possibly")
	checkCompare(t, r, 2, 1, iron, "ayr not possibly; esk surely possibly; tay possibly surely")
	checkCompare(t, r, 1, 1, iron, "")
	checkCompare(t, r, 0, 1, iron, "dee possibly not; tay possibly surely")
	checkCompare(t, r, 1, 2, pattern(anyway, "material=iron"), "don not surely")
	checkCompare(t, r, 1, 2, pattern(anyway), "")
	checkCompare(t, r, 0, 0, iron, "")
}

package weigh

import (
	"slices"

	"voussoir/api"
	"voussoir/exact"
	"voussoir/moving"
)

// CheckSite returns OK if a site is valid.
func CheckSite(s Site) api.Errno {
	exchanged := func(r Reading) bool { return r.Low.Cmp(r.High) > 0 }
	if moving.CheckLine(s.Line) != api.OK || len(s.Readings) > api.MaxStrains || slices.ContainsFunc(s.Readings, exchanged) {
		return api.ErrArg
	}
	return api.OK
}

// CheckPattern returns OK if a pattern is valid.
func CheckPattern(p Pattern) api.Errno {
	negative := func(x exact.Q) bool { return x.Sign() < 0 }
	if p.axles() > api.MaxTrain || slices.ContainsFunc(p.Gaps, negative) || !addUp(p.Vehicles, p.axles()) {
		return api.ErrArg
	}
	if negative(p.Light) || p.Light.Cmp(p.Heavy) > 0 {
		return api.ErrArg
	}
	return api.OK
}

// check returns OK if a site and a pattern are valid.
func check(s Site, p Pattern) api.Errno {
	if e := CheckSite(s); e != api.OK {
		return e
	}
	return CheckPattern(p)
}

// checkAll returns OK if a site and a list of patterns are valid.
func checkAll(s Site, l []Pattern) api.Errno {
	if e := CheckSite(s); e != api.OK {
		return e
	}
	if len(l) > api.MaxPatterns {
		return api.ErrLong
	}
	for _, p := range l {
		if e := CheckPattern(p); e != api.OK {
			return e
		}
	}
	return api.OK
}

// addUp reports whether integers, each of them at least 1, add up to n. They are
// taken away from n one by one, as a sum of great ones would wrap around.
func addUp(list []int, n int) bool {
	for _, k := range list {
		if k < 1 || k > n {
			return false
		}
		n -= k
	}
	return n == 0
}

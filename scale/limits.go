package scale

import (
	"sort"

	"agraffe/api"
)

// CheckLimits returns ErrRange for a limit that is out of range, ErrOrder if Least is greater than Most.
func CheckLimits(m api.TensionLimits) api.Errno {
	for _, n := range []int{m.Least, m.Most, m.Jump} {
		if !within(n, 0, api.MaxNumber) {
			return api.ErrRange
		}
	}
	if !within(m.Share, 0, 1000000) {
		return api.ErrRange
	}
	if m.Least > m.Most {
		return api.ErrOrder
	}
	return api.OK
}

// bears says whether a strand is neither too tense at a frequency nor too near to breaking.
func (w fitted) bears(m api.TensionLimits, f api.Range) bool {
	return w.tension(f).Hi <= m.Most && w.share(f).Hi <= m.Share
}

// keeps says whether a strand keeps limits at a frequency.
func (w fitted) keeps(m api.TensionLimits, f api.Range) bool {
	return w.tension(f).Lo >= m.Least && w.bears(m, f)
}

// jump returns the jump between two tensions.
func jump(a, b api.Range) int {
	return max(a.Hi-b.Lo, b.Hi-a.Lo)
}

// Keeps returns -1, or the first unison that breaks limits and ErrBreak.
func Keeps(s api.Stringing, m api.TensionLimits) (int, api.Errno) {
	all, _, e := examine(s)
	if e != api.OK {
		return 0, e
	}
	if e := CheckLimits(m); e != api.OK {
		return 0, e
	}
	tensions := all.tensions()
	for i, strand := range all.strands {
		if !strand.keeps(m, all.frequencies[i]) || i > 0 && jump(tensions[i-1], tensions[i]) > m.Jump {
			return i, api.ErrBreak
		}
	}
	return -1, api.OK
}

// LongestFor returns the greatest length with which a unison bears its tension.
func LongestFor(s api.Stringing, unison int, m api.TensionLimits) (int, api.Errno) {
	all, e := examineAt(s, unison)
	if e != api.OK {
		return 0, e
	}
	if e := CheckLimits(m); e != api.OK {
		return 0, e
	}
	longer, f := all.strands[unison], all.frequencies[unison]
	tooLong := func(more int) bool {
		longer.strand.Length = leastLength + more
		return !longer.bears(m, f)
	}
	// A longer string never has less tension, and so the lengths that are too great stand together.
	fitting := sort.Search(mostLength-leastLength+1, tooLong)
	if fitting == 0 {
		return 0, api.ErrNone
	}
	return leastLength + fitting - 1, api.OK
}

// LeastGauge returns the least core with which a plain unison has enough tension.
func LeastGauge(s api.Stringing, unison int, m api.TensionLimits) (int, api.Errno) {
	all, e := examineAt(s, unison)
	if e != api.OK {
		return 0, e
	}
	if e := CheckLimits(m); e != api.OK {
		return 0, e
	}
	thicker, f := s.Unisons[unison].Strand, all.frequencies[unison]
	if thicker.Over != 0 {
		return 0, api.ErrKind
	}
	suffices := func(more int) bool {
		thicker.Core = leastCore + more
		w, e := all.wires.fit(thicker)
		return e == api.OK && w.tension(f).Lo >= m.Least
	}
	// A thicker plain string bears more and never has less tension, and so the cores that suffice stand together.
	core := leastCore + sort.Search(mostCore-leastCore+1, suffices)
	if core > mostCore {
		return 0, api.ErrNone
	}
	return core, api.OK
}

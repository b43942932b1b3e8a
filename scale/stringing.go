package scale

import (
	"agraffe/api"
	"agraffe/number"
)

// strung is what a stringing that is right comes to: its wires, and for each unison its strand and its frequency.
type strung struct {
	wires       materials
	strands     []fitted
	frequencies []api.Range
}

// examine returns what a stringing comes to, or the results of CheckStringing.
func examine(s api.Stringing) (strung, int, api.Errno) {
	if !within(s.Fork, leastFork, mostHertz) {
		return strung{}, 0, api.ErrRange
	}
	wires, e := materialsOf(s.Wires)
	if e != api.OK {
		return strung{}, 0, e
	}
	if len(s.Unisons) > api.MaxUnisons {
		return strung{}, 0, api.ErrLarge
	}
	all := strung{wires: wires}
	for i, u := range s.Unisons {
		strand, f, e := wires.fitUnison(u, s.Fork)
		if e == api.OK && i > 0 {
			e = checkAscent(s.Unisons[i-1].Pitch, u.Pitch)
		}
		if e != api.OK {
			return strung{}, i, e
		}
		all.strands = append(all.strands, strand)
		all.frequencies = append(all.frequencies, f)
	}
	return all, 0, api.OK
}

// fitUnison returns the strand and the frequency of a unison, or the first of its errors that do not depend on other unisons.
func (m materials) fitUnison(u api.Unison, fork int) (fitted, api.Range, api.Errno) {
	if e := number.CheckPitch(u.Pitch); e != api.OK {
		return fitted{}, api.Range{}, e
	}
	if !within(u.Count, 1, 4) {
		return fitted{}, api.Range{}, api.ErrRange
	}
	strand, e := m.fit(u.Strand)
	if e != api.OK {
		return fitted{}, api.Range{}, e
	}
	f, e := number.Enclose(u.Pitch, fork)
	if e != api.OK {
		return fitted{}, api.Range{}, e
	}
	return strand, f, checkFrequency(f)
}

// checkAscent returns ErrOrder if a pitch is not above the one before.
func checkAscent(before, pitch api.Pitch) api.Errno {
	order, e := number.Order(before, pitch)
	if e != api.OK {
		return e
	}
	if order >= 0 {
		return api.ErrOrder
	}
	return api.OK
}

// examineAt returns what a stringing comes to, or ErrMissing if it has no unison with this number.
func examineAt(s api.Stringing, unison int) (strung, api.Errno) {
	all, _, e := examine(s)
	if e != api.OK {
		return strung{}, e
	}
	if unison < 0 || unison >= len(s.Unisons) {
		return strung{}, api.ErrMissing
	}
	return all, api.OK
}

// tensions returns the tension of a strand of each unison.
func (s strung) tensions() []api.Range {
	l := make([]api.Range, len(s.strands))
	for i, strand := range s.strands {
		l[i] = strand.tension(s.frequencies[i])
	}
	return l
}

// CheckStringing returns the error of a stringing, with the number of the unison that has it, or 0.
func CheckStringing(s api.Stringing) (int, api.Errno) {
	_, unison, e := examine(s)
	return unison, e
}

// Frequency returns the frequency of a unison.
func Frequency(s api.Stringing, unison int) (api.Range, api.Errno) {
	all, e := examineAt(s, unison)
	if e != api.OK {
		return api.Range{}, e
	}
	return all.frequencies[unison], api.OK
}

// Tensions returns the tension of a strand of each unison.
func Tensions(s api.Stringing) ([]api.Range, api.Errno) {
	all, _, e := examine(s)
	if e != api.OK {
		return nil, e
	}
	return all.tensions(), api.OK
}

// Total returns the tension of all strands together.
func Total(s api.Stringing) (api.Range, api.Errno) {
	all, _, e := examine(s)
	if e != api.OK {
		return api.Range{}, e
	}
	var sum api.Range
	for i, t := range all.tensions() {
		sum.Lo += s.Unisons[i].Count * t.Lo
		sum.Hi += s.Unisons[i].Count * t.Hi
	}
	return sum, api.OK
}

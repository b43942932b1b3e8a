package scale

import "agraffe/api"

// fitted is a strand that is right, with its wires. Of a plain one the wrap is no wire.
type fitted struct {
	strand     api.Strand
	core, wrap api.Wire
}

// fit returns a strand with its wires, or its error.
func (m materials) fit(s api.Strand) (fitted, api.Errno) {
	if !within(s.Length, leastLength, mostLength) || !within(s.Core, leastCore, mostCore) || !within(s.Over, 0, mostOver) {
		return fitted{}, api.ErrRange
	}
	wound := s.Over != 0
	if wound && s.Over <= s.Core || wound != (s.Wrap != "") {
		return fitted{}, api.ErrForm
	}
	core, coreKnown := m[s.Wire]
	wrap, wrapKnown := m[s.Wrap]
	if !coreKnown || wound && !wrapKnown {
		return fitted{}, api.ErrMissing
	}
	// What the core bears is divided by, so it may not be rounded down to 0.
	if core.Strength*s.Core*s.Core < 1000000 {
		return fitted{}, api.ErrZero
	}
	return fitted{strand: s, core: core, wrap: wrap}, api.OK
}

// mass returns the mass number.
func (w fitted) mass() int {
	core := w.strand.Core * w.strand.Core
	if w.strand.Over == 0 {
		return w.core.Mass * core
	}
	return w.core.Mass*core + w.wrap.Mass*(w.strand.Over*w.strand.Over-core)
}

// speed returns the x of the chapter: the frequency times the length.
func (w fitted) speed(f api.Range) api.Range {
	return quotient(product(f, exact(w.strand.Length)), exact(1000000))
}

func (w fitted) tension(f api.Range) api.Range {
	x := w.speed(f)
	q := quotient(product(x, x), exact(10000))
	m := quotient(exact(w.mass()), exact(10000))
	return quotient(product(m, q), exact(1000000))
}

// share returns the breaking share.
func (w fitted) share(f api.Range) api.Range {
	bears := quotient(exact(w.core.Strength*w.strand.Core*w.strand.Core), exact(1000000))
	return quotient(product(exact(1000), w.tension(f)), bears)
}

func (w fitted) inharmonicity(f api.Range) (api.Range, api.Errno) {
	t := w.tension(f)
	if t.Lo == 0 {
		return api.Range{}, api.ErrZero
	}
	r := quotient(exact(1000*w.strand.Core*w.strand.Core), exact(w.strand.Length))
	u := quotient(product(r, r), exact(1000))
	return quotient(product(exact(w.core.Stiff), u), product(exact(1000), t)), api.OK
}

func (w fitted) impedance(f api.Range) (api.Range, api.Errno) {
	x := w.speed(f)
	if x.Lo == 0 {
		return api.Range{}, api.ErrZero
	}
	return quotient(product(exact(1000), w.tension(f)), x), api.OK
}

// fittedOf returns a strand with its wires, or the error of CheckStrand.
func fittedOf(l []api.Wire, s api.Strand) (fitted, api.Errno) {
	wires, e := materialsOf(l)
	if e != api.OK {
		return fitted{}, e
	}
	return wires.fit(s)
}

// checkFrequency returns the error of a frequency.
func checkFrequency(f api.Range) api.Errno {
	if f.Lo < 1 || f.Lo > f.Hi || f.Hi > mostHertz {
		return api.ErrRange
	}
	return api.OK
}

// soundingOf returns a strand that is right at a frequency that is right.
func soundingOf(l []api.Wire, s api.Strand, f api.Range) (fitted, api.Errno) {
	w, e := fittedOf(l, s)
	if e != api.OK {
		return fitted{}, e
	}
	return w, checkFrequency(f)
}

// CheckStrand returns the error of CheckWires, and then that of a strand of these wires.
func CheckStrand(l []api.Wire, s api.Strand) api.Errno {
	_, e := fittedOf(l, s)
	return e
}

// MassOf returns the mass number of a strand.
func MassOf(l []api.Wire, s api.Strand) (int, api.Errno) {
	w, e := fittedOf(l, s)
	if e != api.OK {
		return 0, e
	}
	return w.mass(), api.OK
}

// Tension returns the tension of a strand at a frequency.
func Tension(l []api.Wire, s api.Strand, f api.Range) (api.Range, api.Errno) {
	w, e := soundingOf(l, s, f)
	if e != api.OK {
		return api.Range{}, e
	}
	return w.tension(f), api.OK
}

// Share returns the breaking share of a strand at a frequency.
func Share(l []api.Wire, s api.Strand, f api.Range) (api.Range, api.Errno) {
	w, e := soundingOf(l, s, f)
	if e != api.OK {
		return api.Range{}, e
	}
	return w.share(f), api.OK
}

// Inharmonicity returns the inharmonicity of a strand at a frequency, or ErrZero if it may have no tension.
func Inharmonicity(l []api.Wire, s api.Strand, f api.Range) (api.Range, api.Errno) {
	w, e := soundingOf(l, s, f)
	if e != api.OK {
		return api.Range{}, e
	}
	return w.inharmonicity(f)
}

// Impedance returns the impedance of a strand at a frequency, or ErrZero if its frequency times its length is rounded down to 0.
func Impedance(l []api.Wire, s api.Strand, f api.Range) (api.Range, api.Errno) {
	w, e := soundingOf(l, s, f)
	if e != api.OK {
		return api.Range{}, e
	}
	return w.impedance(f)
}

// checkMarks returns the error of the marks of classes.
func checkMarks(marks []int) api.Errno {
	if len(marks) > api.MaxMarks {
		return api.ErrLarge
	}
	for i, mark := range marks {
		if !within(mark, 1, api.MaxNumber) {
			return api.ErrRange
		}
		if i > 0 && mark <= marks[i-1] {
			return api.ErrOrder
		}
	}
	return api.OK
}

// ClassOf returns how many marks are at most the number that a range encloses, or ErrNone if the range leaves that open.
func ClassOf(marks []int, x api.Range) (int, api.Errno) {
	if e := checkMarks(marks); e != api.OK {
		return 0, e
	}
	if x.Lo > x.Hi || x.Lo < 0 || x.Hi > api.MaxNumber {
		return 0, api.ErrRange
	}
	class := 0
	for _, mark := range marks {
		if within(mark, x.Lo+1, x.Hi) {
			return 0, api.ErrNone
		}
		if mark <= x.Lo {
			class++
		}
	}
	return class, api.OK
}

package scale_test

import (
	"math"
	"math/big"
	"math/rand"

	"agraffe/api"
)

// extremes are numbers at the limits of the chapter, just beyond them, and at the ends of int.
var extremes = []int{math.MinInt, math.MinInt + 1, -api.MaxNumber - 1, -api.MaxNumber, -1000001, -1000000, -300001, -300000, -401, -400, -1, 0, 1, 2, 4, 5, 99, 100,
	999, 1000, 3000, 3001, 10000, 10001, 200000, 200001, 300000, 300001, 1000000, 1000001, 10000000, 10000001, 100000000, 100000001,
	api.MaxNumber, api.MaxNumber + 1, math.MaxInt - 1, math.MaxInt}

func span(lo, hi int) api.Range { return api.Range{Lo: lo, Hi: hi} }

func pitch(two, three, five, den int) api.Pitch {
	return api.Pitch{Two: two, Three: three, Five: five, Den: den}
}

// steel is the wire of the examples.
func steel() api.Wire {
	return api.Wire{Name: "steel", Mass: 24661, Strength: 180000, Stiff: 97000000}
}

func copper() api.Wire {
	return api.Wire{Name: "copper", Mass: 27960, Strength: 40000, Stiff: 60000000}
}

// both are the wires of the examples with a wrap.
func both() []api.Wire { return []api.Wire{steel(), copper()} }

// plain is the strand of the examples, with another length and core.
func plain(length, core int) api.Strand {
	return api.Strand{Length: length, Core: core, Wire: "steel"}
}

func wound(length, core, over int) api.Strand {
	return api.Strand{Length: length, Core: core, Over: over, Wire: "steel", Wrap: "copper"}
}

// octaves returns unisons of these strands, each an octave above the one before, from the pitch 1 on.
func octaves(strands ...api.Strand) api.Stringing {
	s := api.Stringing{Fork: 440000, Wires: both()}
	for i, strand := range strands {
		s.Unisons = append(s.Unisons, api.Unison{Pitch: pitch(i, 0, 0, 1), Count: 3, Strand: strand})
	}
	return s
}

// two is the stringing of the examples.
func two() api.Stringing { return octaves(plain(40000, 1000), plain(20000, 1000)) }

// wideLimits are kept by every stringing.
func wideLimits() api.TensionLimits {
	return api.TensionLimits{Most: api.MaxNumber, Share: 1000000, Jump: api.MaxNumber}
}

// enclosed is a range of numbers of any size.
type enclosed struct{ lo, hi *big.Int }

func of(n int) enclosed { return enclosed{big.NewInt(int64(n)), big.NewInt(int64(n))} }

func ofRange(r api.Range) enclosed {
	return enclosed{big.NewInt(int64(r.Lo)), big.NewInt(int64(r.Hi))}
}

func (a enclosed) times(b enclosed) enclosed {
	return enclosed{new(big.Int).Mul(a.lo, b.lo), new(big.Int).Mul(a.hi, b.hi)}
}

// over returns [a / b] by the definition of the chapter.
func (a enclosed) over(b enclosed) enclosed {
	up := new(big.Int).Add(a.hi, new(big.Int).Sub(b.lo, big.NewInt(1)))
	return enclosed{new(big.Int).Div(a.lo, b.hi), up.Div(up, b.lo)}
}

func (a enclosed) asRange() api.Range { return span(int(a.lo.Int64()), int(a.hi.Int64())) }

// figures are the numbers of a strand at a frequency, computed by the chapter's definitions.
type figures struct {
	mass                 int
	x, tension, share    api.Range
	inharmonic, impeding api.Range
}

func wireNamed(l []api.Wire, name string) api.Wire {
	for _, w := range l {
		if w.Name == name {
			return w
		}
	}
	return api.Wire{}
}

// figuresOf needs a strand and a frequency that are right. Inharmonicity and impedance are 0 if they do not exist.
func figuresOf(l []api.Wire, s api.Strand, f api.Range) figures {
	wire := wireNamed(l, s.Wire)
	mass := of(wire.Mass).times(of(s.Core)).times(of(s.Core))
	if s.Over != 0 {
		around := of(s.Over*s.Over - s.Core*s.Core).times(of(wireNamed(l, s.Wrap).Mass))
		mass = enclosed{mass.lo.Add(mass.lo, around.lo), mass.hi.Add(mass.hi, around.hi)}
	}
	x := ofRange(f).times(of(s.Length)).over(of(1000000))
	q := x.times(x).over(of(10000))
	m := mass.over(of(10000))
	t := m.times(q).over(of(1000000))
	b := of(wire.Strength).times(of(s.Core)).times(of(s.Core)).over(of(1000000))
	n := figures{mass: mass.asRange().Lo, x: x.asRange(), tension: t.asRange(), share: of(1000).times(t).over(b).asRange()}
	if n.tension.Lo > 0 {
		r := of(1000).times(of(s.Core)).times(of(s.Core)).over(of(s.Length))
		u := r.times(r).over(of(1000))
		n.inharmonic = of(wire.Stiff).times(u).over(of(1000).times(t)).asRange()
	}
	if n.x.Lo > 0 {
		n.impeding = of(1000).times(t).over(x).asRange()
	}
	return n
}

// keepsBy says by the definition whether a strand with these numbers keeps limits.
func (n figures) keepsBy(m api.TensionLimits) bool {
	return n.tension.Lo >= m.Least && n.tension.Hi <= m.Most && n.share.Hi <= m.Share
}

// jumpOf returns the jump between two tensions by the definition.
func jumpOf(a, b api.Range) int {
	if a.Hi-b.Lo > b.Hi-a.Lo {
		return a.Hi - b.Lo
	}
	return b.Hi - a.Lo
}

func among(r *rand.Rand, low, high int) int { return low + r.Intn(high-low+1) }

// randomWires returns right wires: the wires of the examples, and one that is any.
func randomWires(r *rand.Rand) []api.Wire {
	return append(both(), api.Wire{Name: "X-9", Mass: among(r, 1, 200000), Strength: among(r, 100, 1000000), Stiff: among(r, 0, 100000000)})
}

// randomStrand returns a right strand of these wires.
func randomStrand(r *rand.Rand) api.Strand {
	wires := []string{"steel", "copper", "X-9"}
	s := api.Strand{Length: among(r, 1000, 300000), Core: among(r, 100, 3000), Wire: wires[r.Intn(3)]}
	if r.Intn(2) == 0 {
		s.Over, s.Wrap = among(r, s.Core+1, 10000), wires[r.Intn(3)]
	}
	return s
}

// randomFrequency returns a right frequency.
func randomFrequency(r *rand.Rand) api.Range {
	lo := among(r, 1, 10000000>>r.Intn(23))
	return span(lo, min(10000000, lo+r.Intn(3)*r.Intn(1000)))
}

// randomStringing returns a right stringing with tensions near those of pianos.
func randomStringing(r *rand.Rand, unisons int) api.Stringing {
	s := api.Stringing{Fork: among(r, 400000, 480000), Wires: both()}
	semitone := among(r, -48, 40-2*unisons)
	for range unisons {
		semitone += among(r, 1, 2)
		f := float64(s.Fork) * math.Exp2(float64(semitone)/12)
		strand := plain(max(1000, min(300000, int(17600e6/f)*among(r, 97, 103)/100)), among(r, 97, 103)*10)
		if r.Intn(4) == 0 {
			strand.Over, strand.Wrap = strand.Core+among(r, 1, 60), "copper"
		}
		s.Unisons = append(s.Unisons, api.Unison{Pitch: pitch(semitone, 0, 0, 12), Count: among(r, 1, 4), Strand: strand})
	}
	return s
}

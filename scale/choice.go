package scale

import (
	"iter"
	"slices"

	"agraffe/api"
)

// mostPotential is the greatest potential in size. It is above the cost of every choice: beside a cost it stands where no choice leads.
const mostPotential = 1000000

// option is a gauge for a unison, with the tension if it is allowed.
type option struct {
	allowed bool
	tension api.Range
}

// menu is the options of each unison, by the numbers of the gauges, and the greatest jump from one to the next one.
type menu struct {
	options [][]option
	jump    int
}

// checkGauges returns the error of gauges.
func checkGauges(gauges []int) api.Errno {
	if len(gauges) < 1 || len(gauges) > api.MaxGauges {
		return api.ErrLarge
	}
	for i, gauge := range gauges {
		if !within(gauge, leastCore, mostCore) {
			return api.ErrRange
		}
		if i > 0 && gauge <= gauges[i-1] {
			return api.ErrOrder
		}
	}
	return api.OK
}

// menuOf returns the options of a stringing, or the error of its arguments.
func menuOf(s api.Stringing, m api.TensionLimits, gauges []int) (menu, api.Errno) {
	all, _, e := examine(s)
	if e != api.OK {
		return menu{}, e
	}
	if e := CheckLimits(m); e != api.OK {
		return menu{}, e
	}
	if e := checkGauges(gauges); e != api.OK {
		return menu{}, e
	}
	options := make([][]option, len(s.Unisons))
	for i, u := range s.Unisons {
		options[i] = all.options(u.Strand, all.frequencies[i], m, gauges)
	}
	return menu{options: options, jump: m.Jump}, api.OK
}

// options returns the options of a unison with this strand.
func (s strung) options(strand api.Strand, f api.Range, m api.TensionLimits, gauges []int) []option {
	l := make([]option, len(gauges))
	for i, gauge := range gauges {
		strand.Core = gauge
		if w, e := s.wires.fit(strand); e == api.OK && w.keeps(m, f) {
			l[i] = option{allowed: true, tension: w.tension(f)}
		}
	}
	return l
}

// together says whether a gauge of the unison before goes together with one of a unison.
func (m menu) together(unison, before, gauge int) bool {
	a, b := m.options[unison-1][before], m.options[unison][gauge]
	return a.allowed && b.allowed && jump(a.tension, b.tension) <= m.jump
}

// pairs yields a gauge of the unison before and one of a unison, for all that go together.
func (m menu) pairs(unison int) iter.Seq2[int, int] {
	return func(yield func(before, gauge int) bool) {
		for before := range m.options[unison-1] {
			for gauge := range m.options[unison] {
				if m.together(unison, before, gauge) && !yield(before, gauge) {
					return
				}
			}
		}
	}
}

// costs returns, for each unison and each gauge, the least cost of the gauges up to it, or mostPotential if there are none.
func (m menu) costs() [][]int {
	l := make([][]int, len(m.options))
	for unison, options := range m.options {
		l[unison] = slices.Repeat([]int{mostPotential}, len(options))
		if unison == 0 {
			for gauge, o := range options {
				if o.allowed {
					l[0][gauge] = 0
				}
			}
			continue
		}
		for before, gauge := range m.pairs(unison) {
			l[unison][gauge] = min(l[unison][gauge], l[unison-1][before]+distance(before, gauge))
		}
	}
	return l
}

// cheapest returns a choice with the least cost: costs are those of a menu, and every unison can be reached.
func (m menu) cheapest(costs [][]int) []int {
	choice := make([]int, len(costs))
	last := len(costs) - 1
	for unison := last; unison >= 0; unison-- {
		if unison == last {
			choice[last] = slices.Index(costs[last], leastOfLast(costs))
		} else {
			choice[unison] = m.cheapestBefore(unison+1, choice[unison+1], costs)
		}
	}
	return choice
}

// cheapestBefore returns the gauge of the unison before from which a gauge of a unison has its cost.
func (m menu) cheapestBefore(unison, goal int, costs [][]int) int {
	for before, gauge := range m.pairs(unison) {
		if gauge == goal && costs[unison-1][before]+distance(before, gauge) == costs[unison][gauge] {
			return before
		}
	}
	return 0
}

// leastOfLast returns the least number of the last row, or 0 if there is no row.
func leastOfLast(rows [][]int) int {
	if len(rows) == 0 {
		return 0
	}
	return slices.Min(rows[len(rows)-1])
}

// Allowed returns for each unison the numbers of the gauges that are allowed.
func Allowed(s api.Stringing, m api.TensionLimits, gauges []int) ([][]int, api.Errno) {
	all, e := menuOf(s, m, gauges)
	if e != api.OK {
		return nil, e
	}
	allowed := make([][]int, len(all.options))
	for unison, options := range all.options {
		for gauge, o := range options {
			if o.allowed {
				allowed[unison] = append(allowed[unison], gauge)
			}
		}
	}
	return allowed, api.OK
}

// Choose returns a choice with the least cost, potentials that prove it, and this cost, or ErrNone with the first unison that cannot be reached.
func Choose(s api.Stringing, m api.TensionLimits, gauges []int) (api.GaugeChoice, int, api.Errno) {
	all, e := menuOf(s, m, gauges)
	if e != api.OK {
		return api.GaugeChoice{}, 0, e
	}
	costs := all.costs()
	for unison, row := range costs {
		if slices.Min(row) == mostPotential {
			return api.GaugeChoice{}, unison, api.ErrNone
		}
	}
	// The least costs are potentials: none is above one before it plus the difference.
	return api.GaugeChoice{Gauges: all.cheapest(costs), Potentials: costs}, leastOfLast(costs), api.OK
}

// checkShape returns ErrShape if a choice or its potentials have another size than the menu.
func (m menu) checkShape(c api.GaugeChoice, gauges int) api.Errno {
	if len(c.Gauges) != len(m.options) || len(c.Potentials) != len(m.options) {
		return api.ErrShape
	}
	for _, row := range c.Potentials {
		if len(row) != gauges {
			return api.ErrShape
		}
	}
	return api.OK
}

// price returns the cost of a choice of as many gauges as there are unisons, or its error.
func (m menu) price(choice []int) (int, api.Errno) {
	cost := 0
	for unison, gauge := range choice {
		if gauge < 0 || gauge >= len(m.options[unison]) {
			return 0, api.ErrMissing
		}
		if !m.options[unison][gauge].allowed {
			return 0, api.ErrBreak
		}
		if unison == 0 {
			continue
		}
		if !m.together(unison, choice[unison-1], gauge) {
			return 0, api.ErrClash
		}
		cost += distance(choice[unison-1], gauge)
	}
	return cost, api.OK
}

// provedBy returns the bound that potentials prove, or false if they prove none.
func (m menu) provedBy(potentials [][]int) (int, bool) {
	bound := 0
	for unison, options := range m.options {
		bound = mostPotential
		for gauge, o := range options {
			if !o.allowed {
				continue
			}
			if unison == 0 && potentials[0][gauge] > 0 {
				return 0, false
			}
			bound = min(bound, potentials[unison][gauge])
		}
		if unison == 0 {
			continue
		}
		for before, gauge := range m.pairs(unison) {
			if potentials[unison][gauge] > potentials[unison-1][before]+distance(before, gauge) {
				return 0, false
			}
		}
	}
	return bound, true
}

// CheckChoice returns the cost of a choice that its potentials prove to be the least one.
func CheckChoice(s api.Stringing, m api.TensionLimits, gauges []int, c api.GaugeChoice) (int, api.Errno) {
	all, e := menuOf(s, m, gauges)
	if e != api.OK {
		return 0, e
	}
	if e := all.checkShape(c, len(gauges)); e != api.OK {
		return 0, e
	}
	cost, e := all.price(c.Gauges)
	if e != api.OK {
		return 0, e
	}
	for _, row := range c.Potentials {
		for _, potential := range row {
			if !within(potential, -mostPotential, mostPotential) {
				return 0, api.ErrRange
			}
		}
	}
	if bound, proved := all.provedBy(c.Potentials); !proved || bound < cost {
		return 0, api.ErrProof
	}
	return cost, api.OK
}

// With returns a stringing with the chosen gauges.
func With(s api.Stringing, gauges, choice []int) (api.Stringing, api.Errno) {
	if _, e := CheckStringing(s); e != api.OK {
		return api.Stringing{}, e
	}
	if e := checkGauges(gauges); e != api.OK {
		return api.Stringing{}, e
	}
	if len(choice) != len(s.Unisons) {
		return api.Stringing{}, api.ErrShape
	}
	changed := api.Stringing{Fork: s.Fork, Wires: slices.Clone(s.Wires), Unisons: slices.Clone(s.Unisons)}
	for i, gauge := range choice {
		if gauge < 0 || gauge >= len(gauges) {
			return api.Stringing{}, api.ErrMissing
		}
		changed.Unisons[i].Strand.Core = gauges[gauge]
	}
	if _, e := CheckStringing(changed); e != api.OK {
		return api.Stringing{}, e
	}
	return changed, api.OK
}

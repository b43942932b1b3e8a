package action_test

import (
	"math"
	"math/big"
	"math/rand"
	"slices"
	"strings"
	"testing"

	"agraffe/api"
)

// extremes are numbers at the limits of the chapter, just beyond them, and at the ends of int.
var extremes = []int{math.MinInt, math.MinInt + 1, -10000000, -9999999, -1000000001, -1000000000, -100001, -100000, -10001, -10000, -5001, -5000, -2001, -1001, -1000, -1, 0, 1, 2, 3, 7,
	999, 1000, 1001, 2000, 2001, 5000, 5001, 10000, 10001, 100000, 100001, 9999999, 10000000, 999999999, 1000000000, 1000000001, math.MaxInt - 1, math.MaxInt}

// outside are the extremes that are not from low to high.
func outside(low, high int) []int {
	return slices.DeleteFunc(slices.Clone(extremes), func(n int) bool { return low <= n && n <= high })
}

// wrongNames are texts that are no names.
var wrongNames = []string{"", "-", "-a", "1", "1a", " a", "a ", "a b", "a.", "a_b", "é", "aé", "a\n", "a\x00", "@", "[", "`", "{", "a/", "a:", strings.Repeat("n", 13)}

// rightNames are names at the limits.
var rightNames = []string{"a", "z", "A", "Z", "a0", "a9", "a-", "A--", strings.Repeat("n", 12)}

func frac(num, den int) api.Frac { return api.Frac{Num: num, Den: den} }

func whole(n int) api.Frac { return frac(n, 1) }

// wrongFracs are fractions with their errors.
var wrongFracs = []struct {
	f    api.Frac
	want api.Errno
}{
	{frac(0, 0), api.ErrForm}, {frac(1, 0), api.ErrForm}, {frac(1, -1), api.ErrForm}, {frac(-1, -2), api.ErrForm}, {frac(2, 4), api.ErrForm}, {frac(-2, 4), api.ErrForm}, {frac(0, 2), api.ErrForm},
	{frac(1000000002, 2), api.ErrForm}, {frac(2, 1000000002), api.ErrForm}, {frac(math.MinInt, 2), api.ErrForm}, {frac(math.MinInt, math.MinInt), api.ErrForm}, {frac(math.MaxInt, math.MaxInt), api.ErrForm}, {frac(0, math.MaxInt), api.ErrForm},
	{frac(1000000001, 1), api.ErrRange}, {frac(-1000000001, 1), api.ErrRange}, {frac(1, 1000000001), api.ErrRange}, {frac(-1, 1000000001), api.ErrRange}, {frac(math.MinInt, 1), api.ErrRange}, {frac(math.MinInt, 3), api.ErrRange}, {frac(math.MaxInt, 1), api.ErrRange}, {frac(1, math.MaxInt), api.ErrRange}, {frac(math.MinInt, math.MaxInt), api.ErrRange},
}

// wrongDips are fractions that are no dips of an action whose full dip is 1000, with their errors.
var wrongDips = append(slices.Clone(wrongFracs), []struct {
	f    api.Frac
	want api.Errno
}{{whole(-1), api.ErrRange}, {frac(-1, 1000000000), api.ErrRange}, {whole(1001), api.ErrRange}, {frac(1000000000, 999999), api.ErrRange}, {whole(1000000000), api.ErrRange}, {whole(-1000000000), api.ErrRange}}...)

// knees is a curve with the corners of a list of fractions: X and Y, one after the other.
func knees(l ...api.Frac) api.Curve {
	var c api.Curve
	for i := 0; i < len(l); i += 2 {
		c.Corners = append(c.Corners, api.Knee{X: l[i], Y: l[i+1]})
	}
	return c
}

// curve is a curve with whole corners.
func curve(l ...int) api.Curve {
	var f []api.Frac
	for _, n := range l {
		f = append(f, whole(n))
	}
	return knees(f...)
}

// zigzag is a curve with n corners from an X on, at steps of 1, which goes up and down between two Y.
func zigzag(n, from, low, high int) api.Curve {
	var l []int
	for i := range n {
		y := low
		if i%2 == 1 {
			y = high
		}
		l = append(l, from+i, y)
	}
	return curve(l...)
}

func sameCurve(a, b api.Curve) bool { return slices.Equal(a.Corners, b.Corners) }

func samePart(a, b api.ActionPart) bool {
	return a.Name == b.Name && a.Driver == b.Driver && a.Weight == b.Weight && a.Friction == b.Friction && sameCurve(a.Curve, b.Curve)
}

func sameAction(a, b api.Action) bool {
	return a.Dip == b.Dip && slices.EqualFunc(a.Parts, b.Parts, samePart) && slices.Equal(a.Events, b.Events) && slices.Equal(a.Leads, b.Leads)
}

func isZero(a api.Action) bool { return sameAction(a, api.Action{}) }

// wanted compares a result and its error.
func wanted[T comparable](t *testing.T, what string, got T, e api.Errno, want T, wantError api.Errno) {
	t.Helper()
	if got != want || e != wantError {
		t.Errorf("%s = %v, %v, want %v, %v", what, got, e, want, wantError)
	}
}

// upright is the action of the chapter's examples.
func upright() api.Action {
	return api.Action{
		Dip: 1000,
		Parts: []api.ActionPart{
			{Name: "wippen", Curve: curve(0, 0, 1000, 500), Weight: 100, Friction: 20},
			{Name: "hammer", Driver: "wippen", Curve: curve(0, 0, 450, 4500, 500, 4300), Weight: 30, Friction: 10},
		},
		Events: []api.ActionEvent{{Name: "lift", Part: "wippen", Level: 1}, {Name: "let-off", Part: "hammer", Level: 4500}, {Name: "drop", Part: "hammer", Level: 4600}},
	}
}

// only is an action with one part that the key drives.
func only(dip int, c api.Curve, weight, friction int) api.Action {
	return api.Action{Dip: dip, Parts: []api.ActionPart{{Name: "only", Curve: c, Weight: weight, Friction: friction}}}
}

// chain is an action whose parts a, b, c .. drive one another.
func chain(dip int, l ...api.Curve) api.Action {
	a := api.Action{Dip: dip}
	driver := ""
	for i, c := range l {
		name := string(rune('a' + i))
		a.Parts = append(a.Parts, api.ActionPart{Name: name, Driver: driver, Curve: c})
		driver = name
	}
	return a
}

// winding is an action whose part b has a curve of more than 60 corners.
func winding() api.Action {
	return chain(11, zigzag(12, 0, 0, 11), zigzag(12, 0, 0, 11))
}

// steps notes whether all numbers on a way are small.
type steps struct{ large bool }

func (s *steps) note(x *big.Rat) *big.Rat {
	most := big.NewInt(1000000000)
	if new(big.Int).Abs(x.Num()).Cmp(most) > 0 || x.Denom().Cmp(most) > 0 {
		s.large = true
	}
	return x
}

func (s *steps) add(a, b *big.Rat) *big.Rat { return s.note(new(big.Rat).Add(a, b)) }
func (s *steps) sub(a, b *big.Rat) *big.Rat { return s.note(new(big.Rat).Sub(a, b)) }
func (s *steps) mul(a, b *big.Rat) *big.Rat { return s.note(new(big.Rat).Mul(a, b)) }
func (s *steps) quo(a, b *big.Rat) *big.Rat { return s.note(new(big.Rat).Quo(a, b)) }

func rat(n int) *big.Rat { return new(big.Rat).SetInt64(int64(n)) }

func ratOf(f api.Frac) *big.Rat { return big.NewRat(int64(f.Num), int64(f.Den)) }

// dots are corners of any size.
type dots [][2]*big.Rat

func dotsOf(c api.Curve) dots {
	var d dots
	for _, k := range c.Corners {
		d = append(d, [2]*big.Rat{ratOf(k.X), ratOf(k.Y)})
	}
	return d
}

// slopesBy returns the slopes of a curve by the definition.
func (s *steps) slopesBy(d dots) []*big.Rat {
	var l []*big.Rat
	for i := 1; i < len(d); i++ {
		l = append(l, s.quo(s.sub(d[i][1], d[i-1][1]), s.sub(d[i][0], d[i-1][0])))
	}
	return l
}

// valueBy returns the value and the slope of a curve by the definition.
func (s *steps) valueBy(d dots, x *big.Rat) (value, slope *big.Rat) {
	slopes, last := new(steps).slopesBy(d), len(d)-1
	if x.Cmp(d[0][0]) < 0 {
		return d[0][1], rat(0)
	}
	if x.Cmp(d[last][0]) >= 0 {
		return d[last][1], rat(0)
	}
	for i := last - 1; ; i-- {
		if d[i][0].Cmp(x) <= 0 {
			return s.add(s.mul(s.sub(x, d[i][0]), slopes[i]), d[i][1]), slopes[i]
		}
	}
}

// composeBy returns the curve of a curve by the definition; it is large if it has too many corners.
func (s *steps) composeBy(outer, inner dots) dots {
	slopes := new(steps).slopesBy(inner)
	var d dots
	for _, k := range inner {
		value, _ := s.valueBy(outer, k[1])
		d = append(d, [2]*big.Rat{k[0], value})
	}
	for i := 1; i < len(inner); i++ {
		for _, k := range outer {
			if k[0].Cmp(inner[i-1][1])*k[0].Cmp(inner[i][1]) < 0 {
				x := s.add(s.quo(s.sub(k[0], inner[i-1][1]), slopes[i-1]), inner[i-1][0])
				d = append(d, [2]*big.Rat{x, k[1]})
			}
		}
	}
	slices.SortFunc(d, func(a, b [2]*big.Rat) int { return a[0].Cmp(b[0]) })
	s.slopesBy(d)
	s.large = s.large || len(d) > 60
	return d
}

// reachBy returns the least x at which a level is reached by the definition, or nil.
func (s *steps) reachBy(d dots, level *big.Rat, falling bool) *big.Rat {
	slopes := new(steps).slopesBy(d)
	for i, k := range d {
		side := k[1].Cmp(level)
		if falling && side <= 0 || !falling && side >= 0 {
			if i == 0 {
				return k[0]
			}
			return s.add(s.quo(s.sub(level, d[i-1][1]), slopes[i-1]), d[i-1][0])
		}
	}
	return nil
}

// partBy returns the curve of a part by the definition.
func (s *steps) partBy(a api.Action, name string) dots {
	if name == "" {
		return dotsOf(curve(0, 0, a.Dip, a.Dip))
	}
	var d dots
	for _, p := range a.Parts {
		if p.Name == name {
			d = s.composeBy(dotsOf(p.Curve), s.partBy(a, p.Driver))
		}
	}
	return d
}

// eventBy returns the dip of an event by the definition, or nil.
func (s *steps) eventBy(a api.Action, v api.ActionEvent) *big.Rat {
	return s.reachBy(s.partBy(a, v.Part), rat(v.Level), v.Falling)
}

// balanceBy returns the balance by the definition.
func (s *steps) balanceBy(a api.Action, dip *big.Rat) *big.Rat {
	sum := rat(0)
	for _, p := range a.Parts {
		_, ratio := new(steps).valueBy(s.partBy(a, p.Name), dip)
		sum = s.add(sum, s.mul(rat(p.Weight), ratio))
	}
	for _, lead := range a.Leads {
		sum = s.sub(sum, s.quo(rat(lead.Weight*lead.Place), rat(1000)))
	}
	return sum
}

// frictionBy returns the friction by the definition.
func (s *steps) frictionBy(a api.Action, dip *big.Rat) *big.Rat {
	sum := rat(0)
	for _, p := range a.Parts {
		_, ratio := new(steps).valueBy(s.partBy(a, p.Name), dip)
		sum = s.add(sum, s.mul(rat(p.Friction), new(big.Rat).Abs(ratio)))
	}
	return sum
}

// touchBy returns the down weight and the up weight by the definition.
func (s *steps) touchBy(a api.Action, dip *big.Rat) [2]*big.Rat {
	balance, friction := s.balanceBy(a, dip), s.frictionBy(a, dip)
	return [2]*big.Rat{s.add(balance, friction), s.sub(balance, friction)}
}

// leadsBy returns the holes of ChooseLeads by the definition: of all sets.
func leadsBy(a api.Action, holes []api.Lead, w api.TouchWindow) ([]int, bool) {
	alone, friction := new(steps).balanceBy(a, rat(0)), new(steps).frictionBy(a, rat(0))
	var best []int
	found := false
	for set := range 1 << len(holes) {
		var s steps
		var chosen []int
		balance := alone
		for i, hole := range holes {
			if set>>i&1 == 1 {
				chosen = append(chosen, i)
				balance = s.sub(balance, s.quo(rat(hole.Weight*hole.Place), rat(1000)))
			}
		}
		down, up := s.add(balance, friction), s.sub(balance, friction)
		if s.large || len(a.Leads)+len(chosen) > 8 || down.Cmp(rat(w.Down)) > 0 || up.Cmp(rat(w.Up)) < 0 {
			continue
		}
		if !found || len(chosen) < len(best) || len(chosen) == len(best) && slices.Compare(chosen, best) < 0 {
			best, found = chosen, true
		}
	}
	return best, found
}

// fracOf returns a small number as a fraction.
func fracOf(x *big.Rat) api.Frac {
	return frac(int(x.Num().Int64()), int(x.Denom().Int64()))
}

func curveOf(d dots) api.Curve {
	var c api.Curve
	for _, k := range d {
		c.Corners = append(c.Corners, api.Knee{X: fracOf(k[0]), Y: fracOf(k[1])})
	}
	return c
}

// fracBy returns what a calculation of the model comes to.
func (s *steps) fracBy(x *big.Rat) (api.Frac, api.Errno) {
	if s.large {
		return api.Frac{}, api.ErrLarge
	}
	if x == nil {
		return api.Frac{}, api.ErrNone
	}
	return fracOf(x), api.OK
}

func among(r *rand.Rand, low, high int) int { return low + r.Intn(high-low+1) }

// randomFrac returns a fraction that is at most most in size, with one of some denominators.
func randomFrac(r *rand.Rand, most int, dens ...int) api.Frac {
	den := dens[r.Intn(len(dens))]
	return fracOf(big.NewRat(int64(among(r, -most*den, most*den)), int64(den)))
}

// randomCurve returns a right curve with up to n corners, whose X and Y are at most most in size.
func randomCurve(r *rand.Rand, n, most int, dens ...int) api.Curve {
	for {
		var x []api.Frac
		for range among(r, 1, n) {
			x = append(x, randomFrac(r, most, dens...))
		}
		slices.SortFunc(x, func(a, b api.Frac) int { return ratOf(a).Cmp(ratOf(b)) })
		var c api.Curve
		for _, f := range slices.Compact(x) {
			c.Corners = append(c.Corners, api.Knee{X: f, Y: randomFrac(r, most, dens...)})
		}
		var s steps
		if s.slopesBy(dotsOf(c)); !s.large {
			return c
		}
	}
}

// dens returns denominators for a case: often small ones, sometimes ones that soon become too great.
func dens(r *rand.Rand) []int {
	return [][]int{{1}, {1, 2, 3}, {1, 2, 3, 4, 5, 6, 7}, {1, 10007}, {9, 1000000}, {1, 3, 90000001}}[r.Intn(6)]
}

// randomKnees returns a curve for a part.
func randomKnees(r *rand.Rand, most int) api.Curve {
	return randomCurve(r, among(r, 1, 12), most, 1)
}

// randomAction returns a right action; with a great most its numbers become large more often.
func randomAction(r *rand.Rand) api.Action {
	most := []int{5, 20, 300, 10000}[r.Intn(4)]
	a := api.Action{Dip: among(r, 1, min(2000, most))}
	for i := range r.Intn(7) {
		p := api.ActionPart{Name: string(rune('a' + i)), Curve: randomKnees(r, most), Weight: among(r, 0, 1000), Friction: among(r, 0, 100)}
		if i > 0 && r.Intn(4) > 0 {
			p.Driver = a.Parts[max(r.Intn(i), r.Intn(i))].Name
		}
		a.Parts = append(a.Parts, p)
	}
	if len(a.Parts) > 0 {
		for i := range r.Intn(8) {
			a.Events = append(a.Events, api.ActionEvent{Name: string(rune('A' + i)), Part: a.Parts[r.Intn(len(a.Parts))].Name, Level: among(r, -most, most), Falling: r.Intn(3) == 0})
		}
	}
	a.Leads = randomLeads(r, 3)
	return a
}

func randomLeads(r *rand.Rand, most int) []api.Lead {
	l := make([]api.Lead, r.Intn(most+1))
	for i := range l {
		l[i] = api.Lead{Weight: among(r, 1, 200), Place: 50 * among(r, -4, 20)}
	}
	return l
}

// randomDip returns a dip of an action.
func randomDip(r *rand.Rand, a api.Action) api.Frac {
	den := among(r, 1, 9)
	return fracOf(big.NewRat(int64(among(r, 0, a.Dip*den)), int64(den)))
}

package plate_test

import (
	"math"
	"math/big"
	"math/rand"
	"slices"

	"agraffe/api"
)

// extremes are numbers at the limits of the chapter, just beyond them, and at the ends of int.
var extremes = []int{math.MinInt, math.MinInt + 1, math.MinInt + 1000000, -10000000001, -10000000000, -1000000001, -1000000000, -10000001, -10000000,
	-2000001, -1000001, -1000000, -20001, -20000, -10001, -10000, -1, 0, 1, 2, 3, 100, 10000, 10001, 20000, 20001, 300000, 300001, 1000000, 1000001, 2000001,
	10000000, 10000001, 1000000000, 1000000001, 10000000000, 10000000001, 1000000000000, 1000000000001, math.MaxInt - 1000000, math.MaxInt - 1, math.MaxInt}

// tooGreat are the extremes that are greater in size than a limit.
func tooGreat(most int) []int {
	return slices.DeleteFunc(slices.Clone(extremes), func(n int) bool { return -most <= n && n <= most })
}

// outside are the extremes that are not from low to high.
func outside(low, high int) []int {
	return slices.DeleteFunc(slices.Clone(extremes), func(n int) bool { return low <= n && n <= high })
}

func span(lo, hi int) api.Range { return api.Range{Lo: lo, Hi: hi} }

func exact(n int) api.Range { return span(n, n) }

func frac(num, den int) api.Frac { return api.Frac{Num: num, Den: den} }

func force(x, y, z, fx, fy, fz int) api.Pulled {
	return api.Pulled{At: [3]int{x, y, z}, Force: [3]int{fx, fy, fz}}
}

// repeated returns n times the same element.
func repeated[T any](n int, x T) []T { return slices.Repeat([]T{x}, n) }

// turning is the second example: two forces with the sum 0 that turn.
func turning() []api.Pulled {
	return []api.Pulled{force(100, 0, 0, 0, 0, -10), force(0, 0, 0, 0, 0, 10)}
}

// exampleGirder and exampleLoads are the fourth example.
func exampleGirder() api.Girder { return api.Girder{A: 0, B: 100, Most: 800} }

func exampleLoads() [][2]int { return [][2]int{{20, 10}, {60, 30}} }

// exampleBearing is the fifth example.
func exampleBearing() api.Bearing { return api.Bearing{Bridge: 100, Ahead: 10000, Behind: 5000} }

func among(r *rand.Rand, low, high int) int { return low + r.Intn(high-low+1) }

// sized returns a number up to most in size, often a small one.
func sized(r *rand.Rand, most int) int {
	most >>= r.Intn(20)
	return among(r, -most, most)
}

func randomPlace(r *rand.Rand, most int) [3]int {
	return [3]int{sized(r, most), sized(r, most), sized(r, most)}
}

func randomForces(r *rand.Rand, most int) []api.Pulled {
	l := make([]api.Pulled, r.Intn(most+1))
	for i := range l {
		l[i] = api.Pulled{At: randomPlace(r, 1000000), Force: randomPlace(r, 1000000000)}
	}
	return l
}

// randomBars returns ascending places.
func randomBars(r *rand.Rand) []int {
	most := max(20, 20000>>r.Intn(12))
	var at []int
	for len(at) < 2 {
		at = at[:0]
		for range among(r, 2, 20) {
			at = append(at, among(r, -most, most))
		}
		slices.Sort(at)
		at = slices.Compact(at)
	}
	return at
}

// randomLoads returns loads from a place to another one, of which some lie at places that are given.
func randomLoads(r *rand.Rand, from, to int, at ...int) [][2]int {
	l := make([][2]int, r.Intn(8))
	for i := range l {
		l[i] = [2]int{among(r, from, to), sized(r, 1000000)}
		if len(at) > 0 && r.Intn(3) == 0 {
			l[i][0] = at[r.Intn(len(at))]
		}
	}
	return l
}

func randomGirder(r *rand.Rand) api.Girder {
	at := randomBars(r)
	return api.Girder{A: at[0], B: at[len(at)-1], Most: among(r, 0, 1000000000000>>r.Intn(40))}
}

func randomBearing(r *rand.Rand) api.Bearing {
	return api.Bearing{Front: sized(r, 10000), Bridge: sized(r, 10000), Back: sized(r, 10000), Ahead: among(r, 1, 300000>>r.Intn(18)), Behind: among(r, 1, 300000>>r.Intn(18))}
}

// rat returns a whole number, or a quotient, of any size.
func rat(num int, den ...int) *big.Rat {
	x := new(big.Rat).SetInt64(int64(num))
	for _, d := range den {
		x.Quo(x, new(big.Rat).SetInt64(int64(d)))
	}
	return x
}

// add returns the sum of numbers.
func add(l ...*big.Rat) *big.Rat {
	sum := new(big.Rat)
	for _, x := range l {
		sum.Add(sum, x)
	}
	return sum
}

// times returns the product of numbers.
func times(l ...*big.Rat) *big.Rat {
	product := rat(1)
	for _, x := range l {
		product.Mul(product, x)
	}
	return product
}

// fracOf returns a number in lowest terms.
func fracOf(x *big.Rat) api.Frac {
	return frac(int(x.Num().Int64()), int(x.Denom().Int64()))
}

func ratOf(f api.Frac) *big.Rat { return rat(f.Num, f.Den) }

// down returns a number rounded down (Div of big rounds down for divisors above 0).
func down(x *big.Rat) int {
	return int(new(big.Int).Div(x.Num(), x.Denom()).Int64())
}

// up returns a number rounded up.
func up(x *big.Rat) int {
	return -down(new(big.Rat).Neg(x))
}

// pullBy returns a pull by the definition of the chapter.
func pullBy(tension api.Range, from, to [3]int) [3]api.Range {
	squares := new(big.Int)
	for i := range from {
		d := big.NewInt(int64(to[i] - from[i]))
		squares.Add(squares, d.Mul(d, d))
	}
	squares.Mul(squares, big.NewInt(10000))
	root := new(big.Int).Sqrt(squares)
	lo := int(root.Int64())
	hi := lo
	if root.Mul(root, root).Cmp(squares) != 0 {
		hi++
	}
	var pull [3]api.Range
	for i := range from {
		d := to[i] - from[i]
		away := d
		if d < 0 {
			away = -d
		}
		pull[i] = span(down(times(rat(100), rat(tension.Lo), rat(away, hi))), up(times(rat(100), rat(tension.Hi), rat(away, lo))))
		if d < 0 {
			pull[i] = span(-pull[i].Hi, -pull[i].Lo)
		}
	}
	return pull
}

// turn returns the vector product of (at - about) and a force, component by component as the chapter writes it.
func turn(at, about, f [3]int) [3]int {
	x, y, z := at[0]-about[0], at[1]-about[1], at[2]-about[2]
	return [3]int{y*f[2] - z*f[1], z*f[0] - x*f[2], x*f[1] - y*f[0]}
}

// leverBy returns what of a load at a place each bar bears, by the definition.
func leverBy(at []int, place, newtons int) []*big.Rat {
	l := make([]*big.Rat, len(at))
	for i, bar := range at {
		l[i] = rat(0)
		switch {
		case place == bar:
			l[i] = rat(newtons)
		case i > 0 && at[i-1] < place && place < bar:
			l[i] = times(rat(newtons), rat(place-at[i-1], bar-at[i-1]))
		case i+1 < len(at) && bar < place && place < at[i+1]:
			l[i] = times(rat(newtons), rat(at[i+1]-place, at[i+1]-bar))
		}
	}
	return l
}

// barsBy returns the load of each bar by the definition.
func barsBy(at []int, l [][2]int) []*big.Rat {
	sums := make([]*big.Rat, len(at))
	for i := range sums {
		sums[i] = rat(0)
	}
	for _, load := range l {
		for i, part := range leverBy(at, load[0], load[1]) {
			sums[i] = add(sums[i], part)
		}
	}
	return sums
}

// shearBy returns the shear force by the definition.
func shearBy(g api.Girder, l [][2]int, x int) *big.Rat {
	sum := barsBy([]int{g.A, g.B}, l)[0]
	for _, load := range l {
		if load[0] <= x {
			sum = add(sum, rat(-load[1]))
		}
	}
	return sum
}

// bendingBy returns the bending by the definition.
func bendingBy(g api.Girder, l [][2]int, x int) *big.Rat {
	sum := times(barsBy([]int{g.A, g.B}, l)[0], rat(x-g.A))
	for _, load := range l {
		if load[0] <= x {
			sum = add(sum, times(rat(-load[1]), rat(x-load[0])))
		}
	}
	return sum
}

// worstBy returns the results of Worst by the definition.
func worstBy(g api.Girder, l [][2]int) (int, *big.Rat) {
	places := []int{}
	for _, load := range l {
		places = append(places, load[0])
	}
	slices.Sort(places)
	if len(places) == 0 {
		return g.A, rat(0)
	}
	at, most := places[0], bendingBy(g, l, places[0])
	for _, x := range places {
		if m := bendingBy(g, l, x); new(big.Rat).Abs(m).Cmp(new(big.Rat).Abs(most)) > 0 {
			at, most = x, m
		}
	}
	return at, most
}

// bearingBy returns the down-bearing by the definition.
func bearingBy(b api.Bearing, tension int) *big.Rat {
	return times(rat(tension), add(rat(b.Bridge-b.Front, b.Ahead), rat(b.Bridge-b.Back, b.Behind)))
}

package number_test

import (
	"math"
	"math/big"
	"math/rand"
	"testing"

	"agraffe/api"
	"agraffe/number"
)

// extremes are numbers at the limits of the chapter, just beyond them, and at the ends of int.
var extremes = []int{math.MinInt, math.MinInt + 1, -api.MaxNumber - 1, -api.MaxNumber, -api.MaxPart - 1, -api.MaxPart, -401, -400, -2, -1, 0,
	1, 2, 3, 12, 13, 60, 61, 400, 401, api.MaxPart, api.MaxPart + 1, api.MaxNumber, api.MaxNumber + 1, math.MaxInt - 1, math.MaxInt}

// invalidFracs are fractions with the error of CheckFrac.
var invalidFracs = []struct {
	f    api.Frac
	want api.Errno
}{
	{api.Frac{}, api.ErrForm},
	{api.Frac{Num: 0, Den: 2}, api.ErrForm},
	{api.Frac{Num: 1, Den: -2}, api.ErrForm},
	{api.Frac{Num: 1, Den: 0}, api.ErrForm},
	{api.Frac{Num: 2, Den: 4}, api.ErrForm},
	{api.Frac{Num: -6, Den: 9}, api.ErrForm},
	{api.Frac{Num: math.MinInt, Den: 2}, api.ErrForm},
	{api.Frac{Num: 1, Den: math.MinInt}, api.ErrForm},
	{api.Frac{Num: 2000000000, Den: 2}, api.ErrForm},
	{api.Frac{Num: 2000000002, Den: 4000000006}, api.ErrForm},
	{api.Frac{Num: math.MinInt, Den: 1}, api.ErrRange},
	{api.Frac{Num: math.MaxInt, Den: 1}, api.ErrRange},
	{api.Frac{Num: api.MaxPart + 1, Den: 1}, api.ErrRange},
	{api.Frac{Num: -api.MaxPart - 1, Den: 1}, api.ErrRange},
	{api.Frac{Num: 1, Den: api.MaxPart + 1}, api.ErrRange},
	{api.Frac{Num: 1, Den: math.MaxInt}, api.ErrRange},
}

func frac(num, den int) api.Frac { return api.Frac{Num: num, Den: den} }

func rat(f api.Frac) *big.Rat { return big.NewRat(int64(f.Num), int64(f.Den)) }

// randomFrac returns a valid fraction whose parts are at most most in size.
func randomFrac(r *rand.Rand, most int) api.Frac {
	x := big.NewRat(int64(r.Intn(2*most+1)-most), int64(r.Intn(most)+1))
	return api.Frac{Num: int(x.Num().Int64()), Den: int(x.Denom().Int64())}
}

// fracOf returns a number as a valid fraction, or ErrLarge.
func fracOf(x *big.Rat) (api.Frac, api.Errno) {
	most := big.NewInt(api.MaxPart)
	if new(big.Int).Abs(x.Num()).Cmp(most) > 0 || x.Denom().Cmp(most) > 0 {
		return api.Frac{}, api.ErrLarge
	}
	return api.Frac{Num: int(x.Num().Int64()), Den: int(x.Denom().Int64())}, api.OK
}

func TestP1_1_CheckFrac(t *testing.T) {
	for _, c := range invalidFracs {
		if e := number.CheckFrac(c.f); e != c.want {
			t.Errorf("CheckFrac(%v) = %v, want %v", c.f, e, c.want)
		}
	}
	for _, f := range []api.Frac{frac(0, 1), frac(1, 1), frac(-1, 2), frac(api.MaxPart, 1), frac(-api.MaxPart, 1), frac(1, api.MaxPart), frac(-999999999, api.MaxPart)} {
		if e := number.CheckFrac(f); e != api.OK {
			t.Errorf("CheckFrac(%v) = %v", f, e)
		}
	}
}

func TestP1_1_ErrorsOfArguments(t *testing.T) {
	good, zero := frac(1, 2), frac(0, 1)
	calls := map[string]func(a, b api.Frac) (api.Frac, api.Errno){"Add": number.Add, "Times": number.Times, "Divide": number.Divide}
	for name, call := range calls {
		for _, c := range invalidFracs {
			for _, other := range []api.Frac{good, zero} {
				if f, e := call(c.f, other); e != c.want || f != (api.Frac{}) {
					t.Errorf("%s(%v, %v) = %v, %v", name, c.f, other, f, e)
				}
				if f, e := call(other, c.f); e != c.want || f != (api.Frac{}) {
					t.Errorf("%s(%v, %v) = %v, %v", name, other, c.f, f, e)
				}
			}
		}
		// The error of the first argument comes first.
		if _, e := call(frac(api.MaxPart+1, 1), frac(2, 2)); e != api.ErrRange {
			t.Errorf("%s: %v", name, e)
		}
		if _, e := call(frac(2, 2), frac(api.MaxPart+1, 1)); e != api.ErrForm {
			t.Errorf("%s: %v", name, e)
		}
	}
	for _, c := range invalidFracs {
		if n, e := number.Compare(c.f, good); e != c.want || n != 0 {
			t.Errorf("Compare(%v, ..) = %v, %v", c.f, n, e)
		}
		if n, e := number.Compare(good, c.f); e != c.want || n != 0 {
			t.Errorf("Compare(.., %v) = %v, %v", c.f, n, e)
		}
		if r, e := number.Rounded(c.f, 0); e != c.want || r != (api.Range{}) {
			t.Errorf("Rounded(%v, 0) = %v, %v", c.f, r, e)
		}
	}
	if _, e := number.Compare(frac(api.MaxPart+1, 1), frac(2, 2)); e != api.ErrRange {
		t.Errorf("Compare: %v", e)
	}
}

func TestP1_1_Results(t *testing.T) {
	type result struct {
		f api.Frac
		e api.Errno
	}
	got := func(f api.Frac, e api.Errno) result { return result{f, e} }
	most := frac(api.MaxPart, 1)
	for _, c := range []struct {
		name      string
		got, want result
	}{
		{"1/2 + -1/3", got(number.Add(frac(1, 2), frac(-1, 3))), result{f: frac(1, 6)}},
		{"1/6 + 1/3", got(number.Add(frac(1, 6), frac(1, 3))), result{f: frac(1, 2)}},
		{"1/2 + -1/2", got(number.Add(frac(1, 2), frac(-1, 2))), result{f: frac(0, 1)}},
		{"most + 0", got(number.Add(most, frac(0, 1))), result{f: most}},
		{"most + 1", got(number.Add(most, frac(1, 1))), result{e: api.ErrLarge}},
		{"most + -1/2", got(number.Add(most, frac(-1, 2))), result{e: api.ErrLarge}},
		{"-most + -1", got(number.Add(frac(-api.MaxPart, 1), frac(-1, 1))), result{e: api.ErrLarge}},
		{"large denominator", got(number.Add(frac(1, api.MaxPart), frac(1, 3))), result{e: api.ErrLarge}},
		{"large denominators that cancel", got(number.Add(frac(1, 999999998), frac(1, 999999998))), result{f: frac(1, 499999999)}},
		{"2/3 * 3/2", got(number.Times(frac(2, 3), frac(3, 2))), result{f: frac(1, 1)}},
		{"0 * -1/2", got(number.Times(frac(0, 1), frac(-1, 2))), result{f: frac(0, 1)}},
		{"most * -1", got(number.Times(most, frac(-1, 1))), result{f: frac(-api.MaxPart, 1)}},
		{"most * 2", got(number.Times(most, frac(2, 1))), result{e: api.ErrLarge}},
		{"1/most * 1/2", got(number.Times(frac(1, api.MaxPart), frac(1, 2))), result{e: api.ErrLarge}},
		{"most * 1/most", got(number.Times(most, frac(1, api.MaxPart))), result{f: frac(1, 1)}},
		{"1/2 / -1/3", got(number.Divide(frac(1, 2), frac(-1, 3))), result{f: frac(-3, 2)}},
		{"-1/2 / -1/3", got(number.Divide(frac(-1, 2), frac(-1, 3))), result{f: frac(3, 2)}},
		{"0 / -5", got(number.Divide(frac(0, 1), frac(-5, 1))), result{f: frac(0, 1)}},
		{"1 / 0", got(number.Divide(frac(1, 1), frac(0, 1))), result{e: api.ErrZero}},
		{"0 / 0", got(number.Divide(frac(0, 1), frac(0, 1))), result{e: api.ErrZero}},
		{"most / 1/2", got(number.Divide(most, frac(1, 2))), result{e: api.ErrLarge}},
		{"1 / most", got(number.Divide(frac(1, 1), most)), result{f: frac(1, api.MaxPart)}},
		{"1/2 / most", got(number.Divide(frac(1, 2), most)), result{e: api.ErrLarge}},
	} {
		if c.got != c.want {
			t.Errorf("%s = %v, want %v", c.name, c.got, c.want)
		}
	}
}

func TestP1_1_AgainstBig(t *testing.T) {
	r := rand.New(rand.NewSource(1))
	for i := range 20000 {
		most := []int{5, 1000, 100000, api.MaxPart}[i%4]
		a, b := randomFrac(r, most), randomFrac(r, most)
		x, y := rat(a), rat(b)
		check := func(name string, f api.Frac, e api.Errno, exact *big.Rat) {
			if want, wantE := fracOf(exact); f != want || e != wantE {
				t.Errorf("%s(%v, %v) = %v, %v, want %v, %v", name, a, b, f, e, want, wantE)
			}
		}
		f, e := number.Add(a, b)
		check("Add", f, e, new(big.Rat).Add(x, y))
		f, e = number.Times(a, b)
		check("Times", f, e, new(big.Rat).Mul(x, y))
		if b.Num != 0 {
			f, e = number.Divide(a, b)
			check("Divide", f, e, new(big.Rat).Quo(x, y))
		}
		if c, e := number.Compare(a, b); e != api.OK || c != x.Cmp(y) {
			t.Errorf("Compare(%v, %v) = %v, %v", a, b, c, e)
		}
		times := r.Intn(1000000000) + 1
		if got, e := number.Rounded(a, times); e != api.OK || got != enclosing(new(big.Rat).Mul(x, big.NewRat(int64(times), 1))) {
			t.Errorf("Rounded(%v, %d) = %v, %v", a, times, got, e)
		}
	}
}

// enclosing returns a number rounded down and rounded up.
func enclosing(x *big.Rat) api.Range {
	down, rest := new(big.Int).DivMod(x.Num(), x.Denom(), new(big.Int))
	lo := int(down.Int64())
	if rest.Sign() == 0 {
		return api.Range{Lo: lo, Hi: lo}
	}
	return api.Range{Lo: lo, Hi: lo + 1}
}

func TestP1_1_Rounded(t *testing.T) {
	for _, c := range []struct {
		f     api.Frac
		times int
		want  api.Range
		e     api.Errno
	}{
		{frac(-7, 2), 1, api.Range{Lo: -4, Hi: -3}, api.OK},
		{frac(7, 2), 1, api.Range{Lo: 3, Hi: 4}, api.OK},
		{frac(-7, 2), 2, api.Range{Lo: -7, Hi: -7}, api.OK},
		{frac(5, 1), 3, api.Range{Lo: 15, Hi: 15}, api.OK},
		{frac(0, 1), 1000000000, api.Range{}, api.OK},
		{frac(1, 3), 1000000000, api.Range{Lo: 333333333, Hi: 333333334}, api.OK},
		{frac(api.MaxPart, 1), 1000000000, api.Range{Lo: 1000000000000000000, Hi: 1000000000000000000}, api.OK},
		{frac(1, 2), 0, api.Range{}, api.ErrRange},
		{frac(1, 2), -1, api.Range{}, api.ErrRange},
		{frac(1, 2), 1000000001, api.Range{}, api.ErrRange},
		{frac(1, 2), math.MinInt, api.Range{}, api.ErrRange},
	} {
		if got, e := number.Rounded(c.f, c.times); got != c.want || e != c.e {
			t.Errorf("Rounded(%v, %d) = %v, %v, want %v, %v", c.f, c.times, got, e, c.want, c.e)
		}
	}
}

func TestP1_2_Root(t *testing.T) {
	const most = 1000000000000000000
	for _, c := range []struct {
		n, k, want int
		e          api.Errno
	}{
		{1000, 3, 10, api.OK}, {999, 3, 9, api.OK}, {0, 1, 0, api.OK}, {0, 12, 0, api.OK}, {1, 12, 1, api.OK},
		{12345, 1, 12345, api.OK}, {most, 1, most, api.OK}, {most, 2, 1000000000, api.OK}, {most - 1, 2, 999999999, api.OK},
		{most, 3, 1000000, api.OK}, {most - 1, 3, 999999, api.OK}, {most, 12, 31, api.OK}, {most, 6, 1000, api.OK}, {4095, 12, 1, api.OK}, {4096, 12, 2, api.OK},
		{-1, 2, 0, api.ErrRange}, {most + 1, 2, 0, api.ErrRange}, {4, 0, 0, api.ErrRange}, {4, 13, 0, api.ErrRange}, {4, -1, 0, api.ErrRange},
		{math.MinInt, 2, 0, api.ErrRange}, {math.MaxInt, 2, 0, api.ErrRange}, {4, math.MinInt, 0, api.ErrRange}, {4, math.MaxInt, 0, api.ErrRange},
	} {
		if got, e := number.Root(c.n, c.k); got != c.want || e != c.e {
			t.Errorf("Root(%d, %d) = %d, %v", c.n, c.k, got, e)
		}
	}
	r := rand.New(rand.NewSource(2))
	for range 5000 {
		n, k := r.Intn(most+1)>>r.Intn(60), r.Intn(12)+1
		got, e := number.Root(n, k)
		power := func(x int) *big.Int { return new(big.Int).Exp(big.NewInt(int64(x)), big.NewInt(int64(k)), nil) }
		if e != api.OK || power(got).Cmp(big.NewInt(int64(n))) > 0 || power(got+1).Cmp(big.NewInt(int64(n))) <= 0 {
			t.Errorf("Root(%d, %d) = %d, %v", n, k, got, e)
		}
	}
}

func TestP1_8_FormatFrac(t *testing.T) {
	for _, c := range []struct {
		f    api.Frac
		want string
	}{
		{frac(0, 1), "0"}, {frac(-3, 4), "-3/4"}, {frac(7, 1), "7"}, {frac(-7, 1), "-7"}, {frac(1, api.MaxPart), "1/1000000000"},
		{frac(0, 0), "0/0"}, {frac(1, -2), "1/-2"}, {frac(2, 4), "2/4"}, {frac(0, 2), "0/2"},
		{frac(math.MinInt, 1), "-9223372036854775808"}, {frac(math.MaxInt, math.MinInt), "9223372036854775807/-9223372036854775808"},
	} {
		if got := number.FormatFrac(c.f); got != c.want {
			t.Errorf("FormatFrac(%v) = %q, want %q", c.f, got, c.want)
		}
	}
}

func TestP1_8_ParseFrac(t *testing.T) {
	for _, c := range []struct {
		s    string
		want api.Frac
		e    api.Errno
	}{
		{"0", frac(0, 1), api.OK}, {"-3/4", frac(-3, 4), api.OK}, {"12", frac(12, 1), api.OK}, {"1/1000000000", frac(1, api.MaxPart), api.OK}, {"-1000000000", frac(-api.MaxPart, 1), api.OK},
		{"2/4", api.Frac{}, api.ErrForm}, {"0/2", api.Frac{}, api.ErrForm}, {"-6/9", api.Frac{}, api.ErrForm}, {"2000000000/2", api.Frac{}, api.ErrForm},
		{"1000000001", api.Frac{}, api.ErrRange}, {"9999999999", api.Frac{}, api.ErrRange}, {"-9999999999", api.Frac{}, api.ErrRange}, {"1/1000000001", api.Frac{}, api.ErrRange},
	} {
		if got, e := number.ParseFrac(c.s); got != c.want || e != c.e {
			t.Errorf("ParseFrac(%q) = %v, %v, want %v, %v", c.s, got, e, c.want, c.e)
		}
	}
	for _, s := range []string{"", "-", "/", "1/", "/2", "1/1", "1/0", "1/-2", "0/1", "2/1", "-0", "-0/3", "00", "01", "-01", "1/02", "+1", "1/+2", " 1", "1 ", "1\n", "1/ 2", "1 /2",
		"1/2/3", "1//2", "--1", "0x1", "1_0", "1e3", "1.5", "a", "١", "1/٢", "12345678901", "-12345678901", "1/12345678901", "1/99999999999999999999", "99999999999999999999"} {
		if got, e := number.ParseFrac(s); e != api.ErrSyntax || got != (api.Frac{}) {
			t.Errorf("ParseFrac(%q) = %v, %v", s, got, e)
		}
	}
	r := rand.New(rand.NewSource(3))
	for range 2000 {
		f := randomFrac(r, api.MaxPart)
		if got, e := number.ParseFrac(number.FormatFrac(f)); got != f || e != api.OK {
			t.Errorf("ParseFrac undoes FormatFrac: %v, %v, %v", f, got, e)
		}
	}
}

func TestP1_9_OrderOfFractions(t *testing.T) {
	r := rand.New(rand.NewSource(4))
	compare := func(a, b api.Frac) int {
		c, e := number.Compare(a, b)
		if e != api.OK {
			t.Fatal(a, b, e)
		}
		return c
	}
	for range 3000 {
		a, b, c := randomFrac(r, 6), randomFrac(r, 6), randomFrac(r, 6)
		if compare(a, a) != 0 || compare(a, b) != -compare(b, a) || (compare(a, b) == 0) != (a == b) {
			t.Errorf("Compare of %v and %v", a, b)
		}
		if compare(a, b) <= 0 && compare(b, c) <= 0 && compare(a, c) > 0 {
			t.Errorf("Compare of %v, %v and %v", a, b, c)
		}
		x, e := number.Add(a, b)
		y, f := number.Add(b, a)
		if x != y || e != f {
			t.Errorf("Add of %v and %v depends on their order", a, b)
		}
	}
}

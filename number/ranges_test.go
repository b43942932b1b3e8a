package number_test

import (
	"math"
	"math/big"
	"math/rand"
	"testing"

	"agraffe/api"
	"agraffe/number"
)

func span(lo, hi int) api.Range { return api.Range{Lo: lo, Hi: hi} }

const most = api.MaxNumber

// invalidRanges are ranges with the error of CheckRange.
var invalidRanges = []struct {
	r    api.Range
	want api.Errno
}{
	{span(1, 0), api.ErrOrder},
	{span(most, -most), api.ErrOrder},
	{span(-most-1, 0), api.ErrRange},
	{span(0, most+1), api.ErrRange},
	{span(most+1, 0), api.ErrRange},
	{span(0, -most-1), api.ErrRange},
	{span(math.MinInt, math.MinInt), api.ErrRange},
	{span(math.MaxInt, math.MinInt), api.ErrRange},
	{span(math.MinInt, math.MaxInt), api.ErrRange},
}

func TestP1_5_CheckRange(t *testing.T) {
	for _, c := range invalidRanges {
		if e := number.CheckRange(c.r); e != c.want {
			t.Errorf("CheckRange(%v) = %v, want %v", c.r, e, c.want)
		}
	}
	for _, r := range []api.Range{span(0, 0), span(-most, most), span(most, most), span(-most, -most), span(-1, 3)} {
		if e := number.CheckRange(r); e != api.OK {
			t.Errorf("CheckRange(%v) = %v", r, e)
		}
	}
}

func TestP1_5_ErrorsOfArguments(t *testing.T) {
	good := span(1, 2)
	calls := map[string]func(a, b api.Range) (api.Range, api.Errno){"Plus": number.Plus, "Meet": number.Meet}
	for name, call := range calls {
		for _, c := range invalidRanges {
			for _, pair := range [][2]api.Range{{c.r, good}, {good, c.r}} {
				if r, e := call(pair[0], pair[1]); e != c.want || r != (api.Range{}) {
					t.Errorf("%s(%v) = %v, %v", name, pair, r, e)
				}
			}
		}
		if _, e := call(span(1, 0), span(0, most+1)); e != api.ErrOrder {
			t.Errorf("%s: %v", name, e)
		}
		if _, e := call(span(0, most+1), span(1, 0)); e != api.ErrRange {
			t.Errorf("%s: %v", name, e)
		}
	}
	for _, c := range invalidRanges {
		if r, e := number.Scaled(c.r, frac(2, 2)); e != c.want || r != (api.Range{}) {
			t.Errorf("Scaled(%v, 2/2) = %v, %v", c.r, r, e)
		}
	}
	for _, c := range invalidFracs {
		if r, e := number.Scaled(good, c.f); e != c.want || r != (api.Range{}) {
			t.Errorf("Scaled(.., %v) = %v, %v", c.f, r, e)
		}
	}
}

func TestP1_5_Results(t *testing.T) {
	type result struct {
		r api.Range
		e api.Errno
	}
	got := func(r api.Range, e api.Errno) result { return result{r, e} }
	for _, c := range []struct {
		name      string
		got, want result
	}{
		{"Plus", got(number.Plus(span(-1, 2), span(10, 20))), result{r: span(9, 22)}},
		{"Plus to most", got(number.Plus(span(-most+1, most-1), span(-1, 1))), result{r: span(-most, most)}},
		{"Plus above most", got(number.Plus(span(0, most), span(0, 1))), result{e: api.ErrLarge}},
		{"Plus below -most", got(number.Plus(span(-most, 0), span(-1, 0))), result{e: api.ErrLarge}},
		{"Scaled by -2/3", got(number.Scaled(span(-3, 5), frac(-2, 3))), result{r: span(-4, 2)}},
		{"Scaled by 2/3", got(number.Scaled(span(-4, 5), frac(2, 3))), result{r: span(-3, 4)}},
		{"Scaled by 0", got(number.Scaled(span(-most, most), frac(0, 1))), result{r: span(0, 0)}},
		{"Scaled by -1", got(number.Scaled(span(-most, most-1), frac(-1, 1))), result{r: span(-most+1, most)}},
		{"Scaled by 1", got(number.Scaled(span(-most, most), frac(1, 1))), result{r: span(-most, most)}},
		{"Scaled by most", got(number.Scaled(span(-1000000, 1000000), frac(api.MaxPart, 1))), result{r: span(-most, most)}},
		{"Scaled above most", got(number.Scaled(span(0, 1000001), frac(api.MaxPart, 1))), result{e: api.ErrLarge}},
		{"Scaled below -most", got(number.Scaled(span(0, 1000001), frac(-api.MaxPart, 1))), result{e: api.ErrLarge}},
		{"Scaled far above", got(number.Scaled(span(most, most), frac(api.MaxPart, 1))), result{e: api.ErrLarge}},
		{"Scaled above 64 bits", got(number.Scaled(span(0, most), frac(999999997, 54210))), result{e: api.ErrLarge}},
		{"Scaled far above by the low bound", got(number.Scaled(span(-most, 0), frac(api.MaxPart, 1))), result{e: api.ErrLarge}},
		{"Scaled by a large fraction", got(number.Scaled(span(-most, most), frac(999999999, api.MaxPart))), result{r: span(-999999999000000, 999999999000000)}},
		{"Scaled just above most", got(number.Scaled(span(most-1, most-1), frac(1000000, 999999))), result{e: api.ErrLarge}},
		{"Scaled, rounded up above most", got(number.Scaled(span(0, 666666666666667), frac(3, 2))), result{e: api.ErrLarge}},
		{"Scaled, rounded up to most", got(number.Scaled(span(0, 833333333333333), frac(6, 5))), result{r: span(0, most)}},
		{"Scaled, rounded down to -most", got(number.Scaled(span(0, 833333333333333), frac(-6, 5))), result{r: span(-most, 0)}},
		{"Meet", got(number.Meet(span(-3, 5), span(2, 9))), result{r: span(2, 5)}},
		{"Meet within", got(number.Meet(span(-3, 5), span(-1, 1))), result{r: span(-1, 1)}},
		{"Meet at an end", got(number.Meet(span(0, 2), span(2, 4))), result{r: span(2, 2)}},
		{"Meet apart", got(number.Meet(span(0, 2), span(3, 4))), result{e: api.ErrNone}},
		{"Meet apart below", got(number.Meet(span(3, 4), span(0, 2))), result{e: api.ErrNone}},
	} {
		if c.got != c.want {
			t.Errorf("%s: %v, want %v", c.name, c.got, c.want)
		}
	}
}

func TestP1_5_ScaledAgainstBig(t *testing.T) {
	r := rand.New(rand.NewSource(14))
	for range 20000 {
		size := most >> r.Intn(50)
		a, b := r.Intn(2*size+1)-size, r.Intn(2*size+1)-size
		by := randomFrac(r, []int{3, 1000, api.MaxPart}[r.Intn(3)])
		x := new(big.Rat).Mul(big.NewRat(int64(min(a, b)), 1), rat(by))
		y := new(big.Rat).Mul(big.NewRat(int64(max(a, b)), 1), rat(by))
		if x.Cmp(y) > 0 {
			x, y = y, x
		}
		down := new(big.Int).Div(x.Num(), x.Denom())
		up := new(big.Int).Div(y.Num(), y.Denom())
		if !y.IsInt() {
			up.Add(up, big.NewInt(1))
		}
		got, e := number.Scaled(span(min(a, b), max(a, b)), by)
		if limit := big.NewInt(most); down.CmpAbs(limit) > 0 || up.CmpAbs(limit) > 0 {
			if e != api.ErrLarge || got != (api.Range{}) {
				t.Errorf("Scaled(%d, %d, %v) = %v, %v, want ErrLarge", a, b, by, got, e)
			}
		} else if e != api.OK || got != span(int(down.Int64()), int(up.Int64())) {
			t.Errorf("Scaled(%d, %d, %v) = %v, %v", a, b, by, got, e)
		}
	}
}

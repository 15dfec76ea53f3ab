package grid_test

import (
	"math/big"
	"testing"

	"ninepin/api"
	"ninepin/grid"
	"ninepin/wide"
)

// nearest is the multiple that is nearest to a raw number, from the middle up: Div by a number above 0 goes down.
func nearest(raw api.Fix) int64 {
	half := plus(big.NewInt(int64(raw)), big.NewInt(1<<15))
	return new(big.Int).Div(half, big.NewInt(1<<16)).Int64()
}

// P6.1

func TestRoundOfEachNumber(t *testing.T) {
	for _, raw := range middles() {
		for place := range 3 {
			n := along(place, int64(raw), 5<<16)
			got, e := grid.Round(api.Vec{X: api.Fix(n.X), Y: api.Fix(n.Y), Z: api.Fix(n.Z)})
			want, wantE := along(place, nearest(raw), 5), api.OK
			if !mayBe(want) {
				want, wantE = api.Point{}, api.ErrBound
			}
			if got != want || e != wantE {
				t.Error("Round", place, int64(raw), got, e)
			}
		}
	}
}

func TestRoundOfAllThree(t *testing.T) {
	l := middles()
	refused, taken := 0, 0
	for i, x := range l {
		for j, y := range l {
			z := l[(7*i+11*j)%len(l)]
			got, e := grid.Round(api.Vec{X: x, Y: y, Z: z})
			want := at(nearest(x), nearest(y), nearest(z))
			switch {
			case !mayBe(want) && got == api.Point{} && e == api.ErrBound:
				refused++
			case mayBe(want) && got == want && e == api.OK:
				taken++
			default:
				t.Fatal("Round", x, y, z, got, e)
			}
		}
	}
	if refused < 1000 || taken < 1000 {
		t.Error("too few of a kind to tell", refused, taken)
	}
}

func TestRoundAboutTheMiddleAndTheLimits(t *testing.T) {
	for _, c := range []struct {
		raw  api.Fix
		want int64
		e    api.Errno
	}{
		{1 << 15, 1, api.OK}, {1<<15 - 1, 0, api.OK}, {1<<15 + 1, 1, api.OK},
		{-1 << 15, 0, api.OK}, {-1<<15 - 1, -1, api.OK}, {-1<<15 + 1, 0, api.OK},
		{3 << 15, 2, api.OK}, {-3 << 15, -1, api.OK}, {-3<<15 - 1, -2, api.OK},
		{end << 16, end, api.OK}, {end<<16 + 1<<15 - 1, end, api.OK}, {end<<16 + 1<<15, 0, api.ErrBound},
		{-end << 16, -end, api.OK}, {-end<<16 - 1<<15, -end, api.OK}, {-end<<16 - 1<<15 - 1, 0, api.ErrBound},
		{api.MaxFix, 0, api.ErrBound}, {api.MaxFix - 1<<15, 0, api.ErrBound}, {api.MinFix, 0, api.ErrBound},
	} {
		if got, e := grid.Round(api.Vec{Y: c.raw}); got != at(0, c.want, 0) || e != c.e {
			t.Error("Round", int64(c.raw), got, e)
		}
	}
}

func TestValueOfAll(t *testing.T) {
	for _, p := range append(points(), at(1<<47-1, 1<<47, 1<<47+1), at(-1<<47, -1<<47-1, -1<<47+1)) {
		v := grid.Value(p)
		got := [3]api.Fix{v.X, v.Y, v.Z}
		for i, n := range list(p) {
			want := new(big.Int).Lsh(big.NewInt(n), 16)
			switch {
			case want.IsInt64() && int64(got[i]) == want.Int64():
			case !want.IsInt64() && n > 0 && got[i] == api.MaxFix:
			case !want.IsInt64() && n < 0 && got[i] == api.MinFix:
			default:
				t.Error("Value", p, v)
			}
		}
	}
}

func TestValueAboutTheLimits(t *testing.T) {
	if v := grid.Value(at(1<<47-1, 1<<47, most)); v != (api.Vec{X: api.MaxFix - 1<<16 + 1, Y: api.MaxFix, Z: api.MaxFix}) {
		t.Error("Value of great ones", v)
	}
	if v := grid.Value(at(-1<<47, -1<<47-1, least)); v != (api.Vec{X: api.MinFix, Y: api.MinFix, Z: api.MinFix}) {
		t.Error("Value of those far below 0", v)
	}
	if v := grid.Value(at(end, -end, 1<<16)); v != (api.Vec{X: 4096 * api.One, Y: -4096 * api.One, Z: api.One}) {
		t.Error("Value", v)
	}
}

func TestCheckOfEachNumber(t *testing.T) {
	for _, n := range edges {
		want := api.OK
		if n < -end || n > end {
			want = api.ErrBound
		}
		for place := range 3 {
			for _, elsewhere := range within {
				if e := grid.Check(along(place, n, elsewhere)); e != want {
					t.Error("Check", place, n, elsewhere, e)
				}
			}
		}
	}
}

// P6.2

func TestLessOfAllPairs(t *testing.T) {
	for _, a := range points() {
		for _, b := range points() {
			got, e := grid.Less(a, b)
			want, wantE := at(a.X-b.X, a.Y-b.Y, a.Z-b.Z), api.OK
			if !mayBe(a) || !mayBe(b) {
				want, wantE = api.Point{}, api.ErrBound
			}
			if got != want || e != wantE {
				t.Fatal("Less", a, b, got, e)
			}
		}
	}
}

func TestLessAboutTheLimits(t *testing.T) {
	for place := range 3 {
		// The difference need not be a point that may be.
		if p, e := grid.Less(along(place, end, 1), along(place, -end, 3)); e != api.OK || p != along(place, 2*end, -2) {
			t.Error("Less of the furthest", place, p, e)
		}
		if p, e := grid.Less(along(place, -end, 1), along(place, end, -3)); e != api.OK || p != along(place, -2*end, 4) {
			t.Error("Less of the furthest, the other way", place, p, e)
		}
		for _, beyond := range []int64{-end - 1, end + 1, least, most} {
			far := along(place, beyond, 1)
			for _, pair := range [][2]api.Point{{far, at(1, 2, 3)}, {at(1, 2, 3), far}, {far, far}} {
				if p, e := grid.Less(pair[0], pair[1]); e != api.ErrBound || p != (api.Point{}) {
					t.Error("Less of what may not be", pair, p, e)
				}
			}
		}
	}
}

func TestCmpOfAllPairs(t *testing.T) {
	for _, a := range points() {
		for _, b := range points() {
			want := 0
			for place := 2; place >= 0; place-- {
				if m, n := list(a)[place], list(b)[place]; m < n {
					want = -1
				} else if m > n {
					want = 1
				}
			}
			if got := grid.Cmp(a, b); got != want {
				t.Fatal("Cmp", a, b, got)
			}
		}
	}
}

func TestCmpExamples(t *testing.T) {
	for _, c := range []struct {
		a, b api.Point
		want int
	}{
		{at(0, 1, 0), at(0, 0, 9), 1}, {at(-1, 5, 5), api.Point{}, -1}, {at(1, -5, -5), api.Point{}, 1},
		{at(7, 0, 1), at(7, 0, 2), -1}, {at(7, 8, 9), at(7, 8, 9), 0}, {at(7, -1, 9), at(7, 0, 0), -1},
		// Differences of these wrap round.
		{at(least, 0, 0), at(most, 0, 0), -1}, {at(0, most, 0), at(0, least, 0), 1}, {at(0, 0, least), at(0, 0, 1), -1}, {at(-2, 0, 0), at(most, 0, 0), -1},
		{at(least, most, least), at(least, most, least), 0},
	} {
		if got := grid.Cmp(c.a, c.b); got != c.want {
			t.Error("Cmp", c.a, c.b, got)
		}
	}
}

// P6.3

func TestDotAndCrossOfAllPairs(t *testing.T) {
	for _, a := range points() {
		for _, b := range points() {
			if got := grid.Dot(a, b); exact(got).Cmp(dot(bigs(a), bigs(b))) != 0 {
				t.Fatal("Dot", a, b, got)
			}
			got, want := three(grid.Cross(a, b)), cross(bigs(a), bigs(b))
			for i := range got {
				if got[i].Cmp(want[i]) != 0 {
					t.Fatal("Cross", a, b, got)
				}
			}
		}
	}
}

func TestDetOfAll(t *testing.T) {
	l := points()
	for _, a := range l {
		for _, b := range l {
			normal := cross(bigs(a), bigs(b))
			for _, c := range l {
				if got := grid.Det(a, b, c); exact(got).Cmp(dot(normal, bigs(c))) != 0 {
					t.Fatal("Det", a, b, c, got)
				}
			}
		}
	}
}

func TestProductsExamples(t *testing.T) {
	if got := grid.Cross(at(1, 0, 0), at(0, 1, 0)); got != by(wide.Of(0), wide.Of(0), wide.Of(1)) {
		t.Error("Cross of X and Y", got)
	}
	if got := grid.Cross(at(2, 3, 5), at(7, 11, 13)); got != by(wide.Of(-16), wide.Of(9), wide.Of(1)) {
		t.Error("Cross", got)
	}
	if got := grid.Dot(at(2, 3, 5), at(7, -11, 13)); got != wide.Of(46) {
		t.Error("Dot", got)
	}
	if got := grid.Dot(at(least, least, least), at(least, least, least)); got != sure(new(big.Int).Lsh(big.NewInt(3), 126)) {
		t.Error("Dot of the least", got)
	}
	if got := grid.Det(at(2, 0, 0), at(0, 3, 0), at(0, 0, 4)); got != wide.Of(24) {
		t.Error("Det", got)
	}
	if got := grid.Det(at(2, 3, 5), at(7, 11, 13), at(17, 19, 23)); got != wide.Of(-78) {
		t.Error("Det of rows", got)
	}
	if got := grid.Det(at(least, 0, 0), at(0, least, 0), at(0, 0, least)); got != power(-1, 189, 0) {
		t.Error("Det of the least", got)
	}
}

// P6.4

// sum is that of the products, and whether each product and each sum, X and Y first, fits.
func sum(n api.Span, p api.Point) (api.Wide, bool) {
	all, parts := new(big.Int), bigs(p)
	for i, part := range three(n) {
		product := times(part, parts[i])
		all = plus(all, product)
		if _, fits := written(product); !fits {
			return api.Wide{}, false
		}
		if _, fits := written(all); !fits {
			return api.Wide{}, false
		}
	}
	return written(all)
}

func TestAlongOfAllPairs(t *testing.T) {
	fit, not := 0, 0
	for _, n := range spans() {
		for _, p := range points() {
			want, fits := sum(n, p)
			if got, ok := grid.Along(n, p); got != want || ok != fits {
				t.Fatal("Along", n, p, got, ok)
			}
			if fits {
				fit++
			} else {
				not++
			}
		}
	}
	if fit < 1000 || not < 1000 {
		t.Error("too few of a kind to tell", fit, not)
	}
}

func TestAlongWhereItJustFits(t *testing.T) {
	zero, one := wide.Of(0), wide.Of(1)
	low, high := power(-1, 511, 0), top(0)
	for _, c := range []struct {
		n    api.Span
		p    api.Point
		want api.Wide
		ok   bool
	}{
		// Products.
		{by(high, zero, zero), at(1, least, most), high, true},
		{by(low, zero, zero), at(1, 7, 7), low, true},
		{by(zero, low, zero), at(7, -1, 7), zero, false},
		{by(zero, zero, low), at(7, 7, 0), zero, true},
		{by(zero, power(1, 510, 0), zero), at(0, -2, 0), low, true},
		{by(zero, power(1, 510, 0), zero), at(0, 2, 0), zero, false},
		{by(zero, zero, power(1, 448, 0)), at(0, 0, least), low, true},
		{by(zero, zero, power(1, 448, 1)), at(0, 0, least), zero, false},
		{by(power(-1, 448, 0), zero, zero), at(least, 0, 0), zero, false},
		{by(power(-1, 448, 1), zero, zero), at(least, 0, 0), top(least + 1), true},
		{by(power(1, 448, 0), zero, zero), at(most, 0, 0), product(power(1, 448, 0), most), true},
		// Sums of X and Y, and of all.
		{by(high, one, zero), at(1, 1, 0), zero, false},
		{by(top(-1), one, zero), at(1, 1, 0), high, true},
		{by(low, one, zero), at(1, -1, 0), zero, false},
		{by(power(-1, 511, 1), one, zero), at(1, -1, 0), low, true},
		{by(high, zero, one), at(1, 0, 1), zero, false},
		{by(one, top(-1), zero), at(1, 1, 0), high, true},
		{by(one, low, one), at(0, 1, -1), zero, false},
		{by(one, power(-1, 511, 2), one), at(-1, 1, -1), low, true},
		// All of it would fit, X and Y do not.
		{by(high, high, low), at(1, 1, 1), zero, false},
		{by(low, low, high), at(1, 1, 1), zero, false},
		// Y and Z would not fit, X and Y first do.
		{by(low, high, high), at(1, 1, 1), top(-1), true},
		{by(high, low, low), at(1, 1, 1), zero, false},
		{by(high, low, power(-1, 511, 1)), at(1, 1, 1), low, true},
		// A product that does not fit counts, though another one would take it back.
		{by(high, high, zero), at(2, -2, 0), zero, false},
		{by(zero, high, high), at(0, 2, -2), zero, false},
	} {
		if got, ok := grid.Along(c.n, c.p); got != c.want || ok != c.ok {
			t.Error("Along", c.n, c.p, got, ok)
		}
	}
}

// isPrime: is it not zero, and does no integer above 1 divide all of it?
func isPrime(n api.Span) bool { return divisor(three(n)).Cmp(big.NewInt(1)) == 0 }

func divisor(l [3]*big.Int) *big.Int {
	all := new(big.Int)
	for _, n := range l {
		all.GCD(nil, nil, all, new(big.Int).Abs(n))
	}
	return all
}

func hasLeast(n api.Span) bool {
	low := power(-1, 511, 0)
	return n.X == low || n.Y == low || n.Z == low
}

func TestPrimeOfAll(t *testing.T) {
	divided := 0
	for _, n := range spans() {
		got, ok := grid.Prime(n)
		if n == (api.Span{}) || hasLeast(n) {
			if ok || got != (api.Span{}) {
				t.Error("Prime of what has none", n, got)
			}
			continue
		}
		if !ok || !isPrime(got) {
			t.Fatal("Prime", n, got, ok)
		}
		whole := divisor(three(n))
		for i, part := range three(got) {
			if times(part, whole).Cmp(three(n)[i]) != 0 {
				t.Fatal("Prime", n, got)
			}
		}
		if got != n {
			divided++
		}
	}
	if divided < 300 {
		t.Error("too few have a divisor to tell", divided)
	}
}

func TestPrimeExamples(t *testing.T) {
	zero, low := wide.Of(0), power(-1, 511, 0)
	of := func(x, y, z int64) api.Span { return by(wide.Of(x), wide.Of(y), wide.Of(z)) }
	for _, c := range []struct {
		n, want api.Span
		ok      bool
	}{
		{of(4, -6, 0), of(2, -3, 0), true},
		{of(2, 3, 4), of(2, 3, 4), true},
		{of(-6, -10, -15), of(-6, -10, -15), true},
		{of(-12, 18, -30), of(-2, 3, -5), true},
		{of(-7, -7, 7), of(-1, -1, 1), true},
		{of(0, 0, -9), of(0, 0, -1), true},
		{of(0, 5, 0), of(0, 1, 0), true},
		{of(1, 0, 0), of(1, 0, 0), true},
		{of(0, 0, 0), of(0, 0, 0), false},
		{by(power(-1, 511, 1), zero, zero), of(-1, 0, 0), true},
		{by(zero, top(0), power(-1, 511, 1)), of(0, 1, -1), true},
		{by(power(1, 510, 0), power(-1, 509, 0), power(1, 508, 0)), of(4, -2, 1), true},
		{by(power(1, 510, 0), wide.Of(3), zero), by(power(1, 510, 0), wide.Of(3), zero), true},
		{by(low, zero, zero), of(0, 0, 0), false},
		{by(wide.Of(2), low, wide.Of(4)), of(0, 0, 0), false},
		{by(wide.Of(1), wide.Of(1), low), of(0, 0, 0), false},
		{by(low, low, low), of(0, 0, 0), false},
	} {
		if got, ok := grid.Prime(c.n); got != c.want || ok != c.ok {
			t.Error("Prime", c.n, got, ok)
		}
	}
}

// Of two numbers of this row, one behind the other, a divisor takes the most divisions to be found.
func TestPrimeWhereItTakesLongest(t *testing.T) {
	a, b := big.NewInt(1), big.NewInt(1)
	for b.BitLen() < 509 {
		a, b = b, plus(a, b)
	}
	for _, k := range []int64{1, 2, 3} {
		n := by(product(sure(b), -k), product(sure(a), k), product(sure(b), k))
		if got, ok := grid.Prime(n); !ok || got != by(product(sure(b), -1), sure(a), sure(b)) {
			t.Error("Prime", k, got, ok)
		}
	}
}

package wide_test

import (
	"math"
	"math/big"
	"testing"

	"ninepin/api"
	"ninepin/wide"
)

var someInts = []int64{0, 1, -1, 2, -2, 7, -7, 1 << 32, -1 << 32, 1<<62 + 5, math.MaxInt64, math.MinInt64, math.MinInt64 + 1}

// P1.1

func TestOf(t *testing.T) {
	for _, l := range wide.Of(-1).L {
		if l != max64 {
			t.Error("Of(-1)", l)
		}
	}
	if wide.Of(0) != (api.Wide{}) || wide.Of(5) != (api.Wide{L: [8]uint64{5}}) {
		t.Error("Of of 0, of 5")
	}
	for _, n := range someInts {
		if exact(wide.Of(n)).Cmp(big.NewInt(n)) != 0 {
			t.Error("Of", n, wide.Of(n))
		}
	}
}

func TestInt(t *testing.T) {
	for _, n := range someInts {
		if got, ok := wide.Int(wide.Of(n)); !ok || got != n {
			t.Error("Int", n, got, ok)
		}
	}
	for _, a := range numbers() {
		want := exact(a)
		got, ok := wide.Int(a)
		if ok != want.IsInt64() || ok && got != want.Int64() || !ok && got != 0 {
			t.Error("Int", want, got, ok)
		}
	}
	for _, a := range []api.Wide{power(1, 63, 0), power(-1, 63, -1), power(1, 64, 0), power(-1, 64, 0), power(1, 448, 1), least, greatest} {
		if got, ok := wide.Int(a); ok || got != 0 {
			t.Error("no int64", exact(a), got, ok)
		}
	}
}

func TestSign(t *testing.T) {
	for _, a := range numbers() {
		if wide.Sign(a) != exact(a).Sign() {
			t.Error("Sign", exact(a), wide.Sign(a))
		}
	}
	if wide.Sign(least) != -1 || wide.Sign(api.Wide{}) != 0 || wide.Sign(greatest) != 1 {
		t.Error("Sign of the least, of 0, of the greatest")
	}
}

func TestCmp(t *testing.T) {
	l := numbers()
	for _, a := range l {
		for _, b := range l {
			if got := wide.Cmp(a, b); got != exact(a).Cmp(exact(b)) {
				t.Fatal("Cmp", exact(a), exact(b), got)
			}
		}
	}
	if wide.Cmp(least, greatest) != -1 || wide.Cmp(greatest, least) != 1 || wide.Cmp(least, least) != 0 || wide.Cmp(wide.Of(-1), wide.Of(0)) != -1 {
		t.Error("Cmp about the limits and 0")
	}
}

func TestBits(t *testing.T) {
	for _, c := range []struct {
		a    api.Wide
		want int
	}{{wide.Of(0), 0}, {wide.Of(1), 1}, {wide.Of(-1), 1}, {wide.Of(-4), 3}, {wide.Of(-3), 2}, {wide.Of(math.MinInt64), 64}, {power(1, 64, 0), 65}, {power(-1, 64, 0), 65}, {power(1, 64, -1), 64}, {least, 512}, {greatest, 511}, {power(-1, 511, 1), 511}} {
		if got := wide.Bits(c.a); got != c.want {
			t.Error("Bits", exact(c.a), got)
		}
	}
	for _, a := range numbers() {
		if wide.Bits(a) != exact(a).BitLen() {
			t.Error("Bits", exact(a), wide.Bits(a))
		}
	}
}

// P1.2

func TestNeg(t *testing.T) {
	for _, a := range numbers() {
		if got, ok := wide.Neg(a); !same(got, ok, new(big.Int).Neg(exact(a))) {
			t.Error("Neg", exact(a), exact(got), ok)
		}
	}
	if got, ok := wide.Neg(least); ok || got != (api.Wide{}) {
		t.Error("Neg of the least", got, ok)
	}
	if got, ok := wide.Neg(greatest); !ok || got != power(-1, 511, 1) {
		t.Error("Neg of the greatest", got, ok)
	}
	if got, ok := wide.Neg(wide.Of(0)); !ok || got != (api.Wide{}) {
		t.Error("Neg of 0", got, ok)
	}
}

func TestAddSubMulOfAllPairs(t *testing.T) {
	l := numbers()
	for _, a := range l {
		for _, b := range l {
			x, y := exact(a), exact(b)
			if got, ok := wide.Add(a, b); !same(got, ok, new(big.Int).Add(x, y)) {
				t.Fatal("Add", x, y, exact(got), ok)
			}
			if got, ok := wide.Sub(a, b); !same(got, ok, new(big.Int).Sub(x, y)) {
				t.Fatal("Sub", x, y, exact(got), ok)
			}
			if got, ok := wide.Mul(a, b); !same(got, ok, new(big.Int).Mul(x, y)) {
				t.Fatal("Mul", x, y, exact(got), ok)
			}
		}
	}
}

type binary func(a, b api.Wide) (api.Wide, bool)

func TestWhatJustFits(t *testing.T) {
	one, zero := wide.Of(1), wide.Of(0)
	for _, c := range []struct {
		name string
		f    binary
		a, b api.Wide
		want api.Wide
	}{
		{"Add", wide.Add, greatest, zero, greatest},
		{"Add", wide.Add, power(1, 510, 0), power(1, 510, -1), greatest},
		{"Add", wide.Add, power(-1, 510, 0), power(-1, 510, 0), least},
		{"Add", wide.Add, greatest, least, wide.Of(-1)},
		{"Sub", wide.Sub, wide.Of(-1), greatest, least},
		{"Sub", wide.Sub, wide.Of(-1), least, greatest},
		{"Sub", wide.Sub, least, least, zero},
		{"Mul", wide.Mul, power(1, 255, 0), power(1, 255, 0), power(1, 510, 0)},
		{"Mul", wide.Mul, power(-1, 256, 0), power(1, 255, 0), least},
		{"Mul", wide.Mul, power(1, 510, 0), wide.Of(-2), least},
		{"Mul", wide.Mul, least, one, least},
		{"Mul", wide.Mul, least, zero, zero},
		{"Mul", wide.Mul, greatest, wide.Of(-1), power(-1, 511, 1)},
	} {
		if got, ok := c.f(c.a, c.b); !ok || got != c.want {
			t.Error(c.name, exact(c.a), exact(c.b), exact(got), ok)
		}
	}
}

func TestWhatJustDoesNotFit(t *testing.T) {
	one := wide.Of(1)
	for _, c := range []struct {
		name string
		f    binary
		a, b api.Wide
	}{
		{"Add", wide.Add, greatest, one},
		{"Add", wide.Add, least, wide.Of(-1)},
		{"Add", wide.Add, least, least},
		{"Add", wide.Add, power(1, 510, 0), power(1, 510, 0)},
		{"Sub", wide.Sub, least, one},
		{"Sub", wide.Sub, greatest, wide.Of(-1)},
		{"Sub", wide.Sub, wide.Of(0), least},
		{"Mul", wide.Mul, least, wide.Of(-1)},
		{"Mul", wide.Mul, power(1, 256, 0), power(1, 255, 0)},
		{"Mul", wide.Mul, power(-1, 256, 0), power(1, 255, 1)},
		{"Mul", wide.Mul, power(1, 256, 0), power(1, 256, 0)},
		{"Mul", wide.Mul, power(1, 448, 0), power(1, 64, 0)},
		{"Mul", wide.Mul, least, least},
		{"Mul", wide.Mul, greatest, greatest},
		{"Mul", wide.Mul, greatest, wide.Of(2)},
	} {
		if got, ok := c.f(c.a, c.b); ok || got != (api.Wide{}) {
			t.Error(c.name, exact(c.a), exact(c.b), exact(got), ok)
		}
	}
}

// P1.3

func TestShiftsByAllCounts(t *testing.T) {
	for _, a := range numbers() {
		x := exact(a)
		for n := 0; n <= 600; n++ {
			if got, ok := wide.Shl(a, n); !same(got, ok, new(big.Int).Lsh(x, uint(n))) {
				t.Fatal("Shl", x, n, exact(got), ok)
			}
			if got := wide.Shr(a, n); exact(got).Cmp(new(big.Int).Rsh(x, uint(n))) != 0 {
				t.Fatal("Shr", x, n, exact(got))
			}
		}
	}
}

func TestShiftsFarOut(t *testing.T) {
	for _, a := range numbers() {
		for _, n := range []int{-1, -64, -511, -512, -9999, math.MinInt, math.MinInt + 1} {
			if got, ok := wide.Shl(a, n); ok || got != (api.Wide{}) {
				t.Error("Shl", exact(a), n, got, ok)
			}
			if wide.Shr(a, n) != a {
				t.Error("Shr", exact(a), n)
			}
		}
		down := wide.Of(0)
		if exact(a).Sign() < 0 {
			down = wide.Of(-1)
		}
		for _, n := range []int{511, 512, 513, 1024, 9999, math.MaxInt32, math.MaxInt - 1, math.MaxInt} {
			got, ok := wide.Shl(a, n)
			if n > 511 && (got != (api.Wide{}) || ok != (a == api.Wide{})) {
				t.Error("Shl", exact(a), n, got, ok)
			}
			if wide.Shr(a, n) != down {
				t.Error("Shr", exact(a), n)
			}
		}
	}
}

func TestShiftsOfTheExamples(t *testing.T) {
	for _, c := range []struct {
		a, n int64
		want api.Wide
		ok   bool
	}{{1, 510, power(1, 510, 0), true}, {1, 511, api.Wide{}, false}, {-1, 511, least, true}, {-1, 512, api.Wide{}, false}, {0, 9999, api.Wide{}, true}, {0, -1, api.Wide{}, false}, {3, 509, power(3, 509, 0), true}, {3, 510, api.Wide{}, false}, {5, 0, wide.Of(5), true}} {
		if got, ok := wide.Shl(wide.Of(c.a), int(c.n)); got != c.want || ok != c.ok {
			t.Error("Shl", c, got, ok)
		}
	}
	for _, c := range [][3]int64{{-1, 600, -1}, {5, 1, 2}, {-5, 1, -3}, {-5, 0, -5}, {-5, -3, -5}, {5, 600, 0}, {-4, 2, -1}, {-5, 2, -2}} {
		if got := wide.Shr(wide.Of(c[0]), int(c[1])); got != wide.Of(c[2]) {
			t.Error("Shr", c, exact(got))
		}
	}
}

// P1.4

// floored is x by y rounded down, and what is left.
func floored(x, y *big.Int) (q, r *big.Int) {
	q, r = new(big.Int).QuoRem(x, y, new(big.Int))
	if r.Sign() != 0 && r.Sign() != y.Sign() {
		q.Sub(q, big.NewInt(1))
		r.Add(r, y)
	}
	return q, r
}

func checkDiv(t *testing.T, a, b api.Wide) {
	t.Helper()
	q, r, ok := wide.Div(a, b)
	none := q == (api.Wide{}) && r == (api.Wide{}) && !ok
	if b == (api.Wide{}) {
		if !none {
			t.Fatal("Div by 0", exact(a), q, r, ok)
		}
		return
	}
	x, y := floored(exact(a), exact(b))
	if _, fits := written(x); !fits {
		if !none {
			t.Fatal("Div does not fit", exact(a), exact(b), q, r, ok)
		}
		return
	}
	if !same(q, ok, x) || !same(r, ok, y) {
		t.Fatal("Div", exact(a), exact(b), exact(q), exact(r), ok)
	}
}

func TestDivOfAllPairs(t *testing.T) {
	l := numbers()
	for _, a := range l {
		for _, b := range l {
			checkDiv(t, a, b)
		}
	}
}

func TestDivOfTheExamples(t *testing.T) {
	for _, c := range [][4]int64{{7, -2, -4, -1}, {-7, 2, -4, 1}, {7, 2, 3, 1}, {-7, -2, 3, -1}, {6, 3, 2, 0}, {-6, 3, -2, 0}, {6, -3, -2, 0}, {-6, -3, 2, 0}, {0, -5, 0, 0}, {1, -5, -1, -4}, {-1, 5, -1, 4}, {-1, -5, 0, -1}} {
		q, r, ok := wide.Div(wide.Of(c[0]), wide.Of(c[1]))
		if !ok || q != wide.Of(c[2]) || r != wide.Of(c[3]) {
			t.Error("Div", c, exact(q), exact(r), ok)
		}
	}
	for _, c := range [][2]api.Wide{{wide.Of(7), wide.Of(0)}, {wide.Of(0), wide.Of(0)}, {least, wide.Of(0)}, {least, wide.Of(-1)}} {
		q, r, ok := wide.Div(c[0], c[1])
		if ok || q != (api.Wide{}) || r != (api.Wide{}) {
			t.Error("Div", exact(c[0]), exact(c[1]), q, r, ok)
		}
	}
}

func TestDivAtTheLimits(t *testing.T) {
	for _, c := range []struct{ a, b, q, r api.Wide }{
		{least, wide.Of(1), least, wide.Of(0)},
		{greatest, wide.Of(-1), power(-1, 511, 1), wide.Of(0)},
		{least, least, wide.Of(1), wide.Of(0)},
		{least, greatest, wide.Of(-2), power(1, 511, -2)},
		{greatest, least, wide.Of(-1), wide.Of(-1)},
		{power(-1, 511, 1), wide.Of(-1), greatest, wide.Of(0)},
		{least, wide.Of(-2), power(1, 510, 0), wide.Of(0)},
		{wide.Of(1), least, wide.Of(-1), power(-1, 511, 1)},
	} {
		q, r, ok := wide.Div(c.a, c.b)
		if !ok || q != c.q || r != c.r {
			t.Error("Div", exact(c.a), exact(c.b), exact(q), exact(r), ok)
		}
	}
}

// TestDivWhereGuessesFail has divisors whose top limb alone says too much of the quotient's limb, by 1 and by 2, and dividends whose top limb is the divisor's.
func TestDivWhereGuessesFail(t *testing.T) {
	tops := []uint64{1 << 63, 1<<63 + 1, max64, max64 - 1, 1, 3, 1 << 32}
	lows := []uint64{0, 1, 1 << 63, max64 - 1, max64}
	for _, top := range tops {
		for _, low := range lows {
			for _, lowest := range lows {
				b := api.Wide{L: [8]uint64{lowest, low, top}}
				for _, high := range []uint64{top, top - 1, 0} {
					for _, next := range lows {
						a := api.Wide{L: [8]uint64{1: next, 2: max64 - next, 3: next, 4: low, 5: high}}
						checkDiv(t, a, b)
						checkDiv(t, api.Wide{L: [8]uint64{next, low, next, high}}, b)
					}
				}
			}
		}
	}
}

// P1.5

func checkSqrt(t *testing.T, a api.Wide) {
	t.Helper()
	got, ok := wide.Sqrt(a)
	x := exact(a)
	if x.Sign() < 0 {
		if ok || got != (api.Wide{}) {
			t.Fatal("Sqrt below 0", x, got, ok)
		}
		return
	}
	if !same(got, ok, new(big.Int).Sqrt(x)) {
		t.Fatal("Sqrt", x, exact(got), ok)
	}
}

func TestSqrt(t *testing.T) {
	for _, c := range [][2]int64{{0, 0}, {1, 1}, {2, 1}, {3, 1}, {4, 2}, {8, 2}, {9, 3}, {15, 3}, {16, 4}, {math.MaxInt64, 3037000499}} {
		if got, ok := wide.Sqrt(wide.Of(c[0])); !ok || got != wide.Of(c[1]) {
			t.Error("Sqrt", c, exact(got), ok)
		}
	}
	for n := range int64(5000) {
		checkSqrt(t, wide.Of(n))
	}
	for _, a := range numbers() {
		checkSqrt(t, a)
	}
	for _, a := range []api.Wide{wide.Of(-1), wide.Of(math.MinInt64), least} {
		if got, ok := wide.Sqrt(a); ok || got != (api.Wide{}) {
			t.Error("Sqrt", exact(a), got, ok)
		}
	}
}

func TestSqrtAboutSquares(t *testing.T) {
	for _, a := range numbers() {
		square := new(big.Int).Mul(exact(a), exact(a))
		for more := int64(-1); more <= 1; more++ {
			if n, ok := written(new(big.Int).Add(square, big.NewInt(more))); ok {
				checkSqrt(t, n)
			}
		}
	}
}

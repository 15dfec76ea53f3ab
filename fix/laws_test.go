package fix_test

import (
	"math/big"
	"testing"

	"ninepin/api"
	"ninepin/fix"
)

// checkAround asks that floor and ceiling lie around n by d, raw numbers, where that is within the limits.
func checkAround(t *testing.T, n, d *big.Int, floor, ceiling api.Fix) {
	t.Helper()
	if d.Sign() < 0 {
		n, d = new(big.Int).Neg(n), new(big.Int).Neg(d)
	}
	if n.Cmp(times(d, raw(api.MinFix))) < 0 || n.Cmp(times(d, raw(api.MaxFix))) > 0 {
		return
	}
	down, up := times(d, raw(floor)), times(d, raw(ceiling))
	if down.Cmp(n) > 0 || up.Cmp(n) < 0 {
		t.Fatal("not around", n, d, floor, ceiling)
	}
	multiple := new(big.Int).Mod(n, d).Sign() == 0
	if multiple && floor != ceiling || !multiple && ceiling-floor != 1 {
		t.Fatal("too far apart, or not at all", n, d, floor, ceiling)
	}
}

// P2.6

func TestAround(t *testing.T) {
	l := numbers()
	for _, a := range l {
		for _, b := range l {
			checkAround(t, times(raw(a), raw(b)), power(32), fix.Mul(a, b), fix.MulUp(a, b))
			if b != 0 {
				checkAround(t, times(raw(a), power(32)), raw(b), fix.Div(a, b), fix.DivUp(a, b))
			}
		}
	}
}

func TestSquareOfSqrt(t *testing.T) {
	squared := func(a api.Fix) *big.Int { return times(raw(a), raw(a)) }
	for _, a := range numbers() {
		if a < 0 {
			continue
		}
		square := times(raw(a), power(32))
		floor, ceiling := fix.Sqrt(a), fix.SqrtUp(a)
		if squared(floor).Cmp(square) > 0 || squared(floor+1).Cmp(square) <= 0 {
			t.Error("Sqrt", a, floor)
		}
		if squared(ceiling).Cmp(square) < 0 || ceiling > 0 && squared(ceiling-1).Cmp(square) >= 0 {
			t.Error("SqrtUp", a, ceiling)
		}
		if exact := squared(floor).Cmp(square) == 0; exact != (floor == ceiling) || ceiling-floor > 1 {
			t.Error("Sqrt and SqrtUp", a, floor, ceiling)
		}
	}
}

func TestRootsOfSquares(t *testing.T) {
	for _, a := range []api.Fix{0, 1 << 16, api.One, 3 * api.One, api.One / 2, 7 << 20, 46340 * api.One} {
		square := fix.Mul(a, a)
		if fix.Sqrt(square) != a || fix.SqrtUp(square) != a || a > 0 && (fix.SqrtUp(square+1) <= a || fix.Sqrt(square-1) >= a) {
			t.Error("the root of a square", a)
		}
	}
}

// P2.7

func TestOrder(t *testing.T) {
	l := numbers()
	for i := 1; i < len(l); i++ {
		less, more := l[i-1], l[i]
		if fix.Sqrt(less) > fix.Sqrt(more) || fix.SqrtUp(less) > fix.SqrtUp(more) {
			t.Error("Sqrt", less, more)
		}
		for _, b := range l {
			if fix.Add(less, b) > fix.Add(more, b) || fix.Add(b, less) > fix.Add(b, more) || fix.Sub(less, b) > fix.Sub(more, b) {
				t.Fatal("Add, Sub", less, more, b)
			}
			if b >= 0 && (fix.Mul(less, b) > fix.Mul(more, b) || fix.Mul(b, less) > fix.Mul(b, more) || fix.MulUp(less, b) > fix.MulUp(more, b)) {
				t.Fatal("Mul, MulUp", less, more, b)
			}
			if b > 0 && (fix.Div(less, b) > fix.Div(more, b) || fix.DivUp(less, b) > fix.DivUp(more, b)) {
				t.Fatal("Div, DivUp", less, more, b)
			}
		}
	}
}

func TestOrderOfNeighbours(t *testing.T) {
	for _, a := range numbers() {
		if a == api.MaxFix {
			continue
		}
		for _, b := range []api.Fix{1, 3, api.One - 1, api.One, api.One + 1, api.MaxFix} {
			if fix.Add(a, b) > fix.Add(a+1, b) || fix.Mul(a, b) > fix.Mul(a+1, b) || fix.Div(a, b) > fix.Div(a+1, b) || fix.Sqrt(a) > fix.Sqrt(a+1) {
				t.Error("of a number and the next", a, b)
			}
		}
	}
}

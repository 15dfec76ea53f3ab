package mat_test

import (
	"math/big"
	"testing"

	"ninepin/api"
	"ninepin/mat"
)

// P4.1

func TestOneAndDiag(t *testing.T) {
	if got := mat.One(); got != of(by(one, 0, 0), by(0, one, 0), by(0, 0, one)) {
		t.Error("One", got)
	}
	for _, v := range vectors() {
		if got := mat.Diag(v); got != of(by(v.X, 0, 0), by(0, v.Y, 0), by(0, 0, v.Z)) {
			t.Error("Diag", v, got)
		}
	}
}

func TestAddOfAllPairs(t *testing.T) {
	l := matrices()
	for _, a := range l {
		for _, b := range l {
			x, y, got := table(a), table(b), table(mat.Add(a, b))
			each(func(i, j int) {
				if want := within(new(big.Int).Add(raw(x[i][j]), raw(y[i][j]))); got[i][j] != want {
					t.Fatal("Add", a, b, got, want)
				}
			})
		}
	}
}

func TestAddAboutTheLimits(t *testing.T) {
	a := of(by(most, most-1, most), by(least, least+1, least), by(most, least, 5))
	b := of(by(1, 1, -1), by(-1, -1, 1), by(most, least, -5))
	want := of(by(most, most, most-1), by(least, least, least+1), by(most, least, 0))
	if got := mat.Add(a, b); got != want {
		t.Error("Add", got)
	}
}

func TestTurned(t *testing.T) {
	if got := mat.Turned(of(by(1, 2, 3), by(4, 5, 6), by(7, 8, least))); got != of(by(1, 4, 7), by(2, 5, 8), by(3, 6, least)) {
		t.Error("Turned", got)
	}
	for _, m := range matrices() {
		was, got := table(m), table(mat.Turned(m))
		each(func(i, j int) {
			if got[i][j] != was[j][i] {
				t.Fatal("Turned", m, got)
			}
		})
	}
}

// P4.2

func TestApplyOfAllPairs(t *testing.T) {
	for _, m := range matrices() {
		for _, v := range vectors() {
			x, y, got := table(m), list(v), list(mat.Apply(m, v))
			for i := range 3 {
				all := new(big.Int)
				for k := range 3 {
					all.Add(all, product(x[i][k], y[k]))
				}
				if want := brought(all, 64); got[i] != want {
					t.Fatal("Apply", m, v, got, want)
				}
			}
		}
	}
}

func TestApplyExamples(t *testing.T) {
	for _, c := range []struct {
		m       api.Mat
		v, want api.Vec
	}{
		{of(by(0, -one, 0), by(one, 0, 0), by(0, 0, one)), by(one, 2*one, 3*one), by(-2*one, one, 3*one)},
		{of(by(1, 0, 0), by(0, 1, 0), by(0, 0, -1)), by(1, -1, 1), by(0, -1, -1)},
		// Halves of the last bit count together, though each alone is rounded to nothing.
		{of(by(half, half, 0), by(half, half, half), by(-half, -half, -half)), by(1, 1, 1), by(1, 1, -2)},
		// The parts are out of bounds, the sums are not.
		{of(by(most, most, 7), by(least, least, -7), by(most, least, 0)), by(2*one, -2*one, one), by(7, -7, most)},
		{of(by(most, -most, 0), by(least, least, 0), by(0, most, -most)), by(most, most, most), by(0, least, 0)},
		// What just fits, and what just does not.
		{of(by(most, 0, 0), by(most, 1, 0), by(most, -1, 0)), by(one, one, 0), by(most, most, most-1)},
		{of(by(least, 0, 0), by(least, -1, 0), by(least, 1, 0)), by(one, one, 0), by(least, least, least+1)},
		{of(by(least, 0, 0), by(0, -most, 0), by(0, 0, most)), by(-one, -one, -one), by(most, most, -most)},
	} {
		if got := mat.Apply(c.m, c.v); got != c.want {
			t.Error("Apply", c.m, c.v, got)
		}
	}
}

func TestMulOfAllPairs(t *testing.T) {
	l := matrices()
	for _, a := range l {
		for _, b := range l {
			x, y, got := table(a), table(b), table(mat.Mul(a, b))
			each(func(i, j int) {
				all := new(big.Int)
				for k := range 3 {
					all.Add(all, product(x[i][k], y[k][j]))
				}
				if want := brought(all, 64); got[i][j] != want {
					t.Fatal("Mul", a, b, got, want)
				}
			})
		}
	}
}

func TestMulExamples(t *testing.T) {
	a := of(by(one, 2*one, 3*one), by(0, one, 4*one), by(5*one, 6*one, 0))
	b := of(by(one, 0, 0), by(one, one, 0), by(0, 0, -one))
	if got := mat.Mul(a, b); got != of(by(3*one, 2*one, -3*one), by(one, one, -4*one), by(11*one, 6*one, 0)) {
		t.Error("Mul", got)
	}
	if got := mat.Mul(b, a); got != of(by(one, 2*one, 3*one), by(one, 3*one, 7*one), by(-5*one, -6*one, 0)) {
		t.Error("Mul, the other way round", got)
	}
	// Parts that are out of bounds, though the sum is not; halves of the last bit; just fitting, and just not.
	a = of(by(most, most, 1), by(half, half, 0), by(one, one, 0))
	b = of(by(2*one, 1, most), by(-2*one, 1, 1), by(5*one, 0, 0))
	if got := mat.Mul(a, b); got != of(by(5, one-1, most), by(0, 1, 1<<62), by(0, 2, most)) {
		t.Error("Mul about the limits", got)
	}
}

// P4.3

func TestDetOfAll(t *testing.T) {
	for _, m := range matrices() {
		if got, want := mat.Det(m), brought(determinant(m), 96); got != want {
			t.Error("Det", m, got, want)
		}
	}
}

func TestDetExamples(t *testing.T) {
	for _, c := range []struct {
		m    api.Mat
		want api.Fix
	}{
		{mat.Diag(by(2*one, 3*one, 4*one)), 24 * one},
		{of(by(one, 2*one, 3*one), by(4*one, 5*one, 6*one), by(7*one, 8*one, 10*one)), -3 * one},
		{of(by(0, one, 0), by(0, 0, one), by(one, 0, 0)), one},
		{of(by(0, one, 0), by(one, 0, 0), by(0, 0, one)), -one},
		// Not 0, but rounded to it, or to the next below.
		{mat.Diag(by(1, 1, 1)), 0},
		{mat.Diag(by(-1, 1, 1)), -1},
		{mat.Diag(by(one, half, 1)), 0},
		{mat.Diag(by(-one, half, 1)), -1},
		{mat.Diag(by(one, one, -1)), -1},
		// What just fits, and what just does not.
		{mat.Diag(by(most, one, one)), most},
		{mat.Diag(by(one, one+1, most)), most},
		{mat.Diag(by(one, most, one-1)), most - 1<<31},
		{mat.Diag(by(one, least, one)), least},
		{mat.Diag(by(-one, least, one)), most},
		{mat.Diag(by(-one, -one, least)), least},
		{mat.Diag(by(-one, most, one)), -most},
		{mat.Diag(by(least, one+1, one)), least},
		{mat.Diag(by(most, most, most)), most},
		{mat.Diag(by(least, least, least)), least},
		{mat.Diag(by(least, least, most)), most},
		// The parts are out of bounds, the sum is not.
		{of(by(most-one, most-2*one, 0), by(most, most-one, 0), by(0, 0, one)), one},
		{of(by(0, 0, one), by(most, most-one, 0), by(most-one, most-2*one, 0)), -one},
		{of(by(most, most, 0), by(2*one, 2*one+1, 0), by(0, 0, one)), 1<<31 - 1},
		{of(by(2*one, 2*one+1, 0), by(most, most, 0), by(0, 0, one)), -1 << 31},
		{of(by(most, least, most), by(most, least, most), by(least, most, least)), 0},
		{of(by(least, most, most), by(most, least, most), by(most, most, least)), most},
		{of(by(most, least, most), by(least, most, most), by(most, most, least)), least},
	} {
		if got := mat.Det(c.m); got != c.want {
			t.Error("Det", c.m, got, c.want)
		}
	}
	for _, m := range flat() {
		if got := mat.Det(m); got != 0 {
			t.Error("Det of a flat one", m, got)
		}
	}
}

// P4.4

func units() (l [3][]*big.Rat) {
	for i := range l {
		for j := range 3 {
			l[i] = append(l[i], big.NewRat(0, 1))
			if i == j {
				// Raw numbers stand on the left: so the inverse comes out by 2^32, as it should.
				l[i][j].SetInt64(int64(one))
			}
		}
	}
	return l
}

func TestInverseOfAll(t *testing.T) {
	told := 0
	for _, m := range matrices() {
		want, there := solved(m, units())
		back, ok := mat.Inverse(m)
		if ok != there {
			t.Fatal("Inverse", m, ok)
		}
		if !ok {
			if back != (api.Mat{}) {
				t.Error("Inverse of a flat one", m, back)
			}
			continue
		}
		got := table(back)
		each(func(i, j int) {
			if got[i][j] != broughtRatio(want[i][j]) {
				t.Fatal("Inverse", m, i, j, got, want)
			}
			if -most < got[i][j] && got[i][j] < most && got[i][j] != 0 {
				told++
			}
		})
	}
	if told < 200 {
		t.Error("too few are within to tell", told)
	}
}

func TestInverseExamples(t *testing.T) {
	third := api.Fix(6148914691236517205) // 2^64 by 3, rounded down
	for _, c := range []struct{ m, want api.Mat }{
		{mat.Diag(by(2*one, 4*one, half)), mat.Diag(by(half, one/4, 2*one))},
		{of(by(0, -one, 0), by(one, 0, 0), by(0, 0, one)), of(by(0, one, 0), by(-one, 0, 0), by(0, 0, one))},
		{of(by(one, 2*one, 3*one), by(0, one, 4*one), by(5*one, 6*one, 0)), of(by(-24*one, 18*one, 5*one), by(20*one, -15*one, -4*one), by(-5*one, 4*one, one))},
		// The determinant is not 0, but rounded to it.
		{mat.Diag(by(1, 1, 1)), mat.Diag(by(most, most, most))},
		{mat.Diag(by(1, -1, 1)), mat.Diag(by(most, least, most))},
		{mat.Diag(by(3, -3, 3)), mat.Diag(by(third, -third-1, third))},
		{mat.Diag(by(1<<20, 1<<10, half)), mat.Diag(by(1<<44, 1<<54, 2*one))},
		// 2^31 just does not fit, 0 less it does.
		{mat.Diag(by(2, -2, 4)), mat.Diag(by(most, least, 1<<62))},
		{of(by(one, most, 0), by(0, one, 0), by(0, 0, one)), of(by(one, -most, 0), by(0, one, 0), by(0, 0, one))},
		{of(by(one, 0, 0), by(least, one, 0), by(0, least+1, one)), of(by(one, 0, 0), by(most, one, 0), by(most, most, one))},
		// Rounded down, with a determinant of either sign.
		{mat.Diag(by(3*one, one, -one)), mat.Diag(by(1431655765, one, -one))},
		{mat.Diag(by(-3*one, one, one)), mat.Diag(by(-1431655766, one, one))},
		{mat.Diag(by(most, least, one)), mat.Diag(by(2, -2, one))},
		// Parts that are out of bounds, though the determinant is 1.
		{of(by(most-one, most-2*one, 0), by(most, most-one, 0), by(0, 0, one)), of(by(most-one, 2*one-most, 0), by(-most, most-one, 0), by(0, 0, one))},
	} {
		if got, ok := mat.Inverse(c.m); !ok || got != c.want {
			t.Error("Inverse", c.m, got, ok)
		}
	}
	for _, m := range flat() {
		if got, ok := mat.Inverse(m); ok || got != (api.Mat{}) {
			t.Error("Inverse of a flat one", m, got, ok)
		}
	}
}

func TestSolveOfAllPairs(t *testing.T) {
	told := 0
	for _, m := range matrices() {
		for _, v := range vectors() {
			var right [3][]*big.Rat
			for i, n := range list(v) {
				right[i] = []*big.Rat{new(big.Rat).SetInt(raw(n))}
			}
			want, there := solved(m, right)
			x, ok := mat.Solve(m, v)
			if ok != there || !ok && x != (api.Vec{}) {
				t.Fatal("Solve", m, v, x, ok)
			}
			for i, got := range list(x) {
				if ok && got != broughtRatio(want[i][0]) {
					t.Fatal("Solve", m, v, i, x, want)
				}
				if -most < got && got < most && got != 0 {
					told++
				}
			}
		}
	}
	if told < 2000 {
		t.Error("too few are within to tell", told)
	}
}

func TestSolveExamples(t *testing.T) {
	skew := of(by(one, 2*one, 3*one), by(0, one, 4*one), by(5*one, 6*one, 0))
	thin := of(by(most-one, most-2*one, 0), by(most, most-one, 0), by(0, 0, one))
	for _, c := range []struct {
		m       api.Mat
		v, want api.Vec
	}{
		{of(by(0, -one, 0), by(one, 0, 0), by(0, 0, one)), by(-2*one, one, 3*one), by(one, 2*one, 3*one)},
		{skew, by(14*one, 14*one, 17*one), by(one, 2*one, 3*one)},
		{skew, by(1, 0, 0), by(-24, 20, -5)},
		{skew, api.Vec{}, api.Vec{}},
		// Parts that are out of bounds, though the answer is not.
		{thin, by(most-one, most, 5), by(one, 0, 5)},
		{thin, by(one, one, -5), by(one, -one, -5)},
		// Rounded once, and down, with a determinant of either sign.
		{mat.Diag(by(3*one, 3*one, 3*one)), by(one, -one, 1), by(1431655765, -1431655766, 0)},
		{mat.Diag(by(-3*one, -3*one, -3*one)), by(one, -one, 1), by(-1431655766, 1431655765, -1)},
		{mat.Diag(by(1, 1, 1)), by(1, -1, 1<<30), by(one, -one, 1<<62)},
		// What just fits, and what just does not.
		{mat.Diag(by(half, half, half)), by(most/2, most/2+1, least/2), by(most-1, most, least)},
		{mat.Diag(by(half, half, -half)), by(least/2-1, least/2+1, least/2), by(least, least+2, most)},
		{mat.Diag(by(1, 1, -1)), by(most, least, most), by(most, least, least)},
		{mat.Diag(by(most, least, most)), by(most, most, least), by(one, -one, -one-1)},
	} {
		if got, ok := mat.Solve(c.m, c.v); !ok || got != c.want {
			t.Error("Solve", c.m, c.v, got, ok)
		}
	}
	// Not even where there are such vectors.
	for _, m := range flat() {
		for _, v := range []api.Vec{{}, m.R[0], mat.Apply(m, by(one, 0, 0)), by(1, 2, 3)} {
			if got, ok := mat.Solve(m, v); ok || got != (api.Vec{}) {
				t.Error("Solve of a flat one", m, v, got, ok)
			}
		}
	}
}

// P4.5

func TestBetweenOfAllPairs(t *testing.T) {
	for _, r := range matrices() {
		for _, d := range vectors() {
			x, y, got := table(r), list(d), table(mat.Between(r, d))
			each(func(i, j int) {
				all := new(big.Int)
				for k := range 3 {
					all.Add(all, product(x[i][k], y[k], x[j][k]))
				}
				if want := brought(all, 96); got[i][j] != want {
					t.Fatal("Between", r, d, got, want)
				}
			})
		}
	}
}

func TestBetweenExamples(t *testing.T) {
	turn := of(by(0, -one, 0), by(one, 0, 0), by(0, 0, one))
	for _, c := range []struct {
		r    api.Mat
		d    api.Vec
		want api.Mat
	}{
		{mat.One(), by(most, least, -1), mat.Diag(by(most, least, -1))},
		{turn, by(2*one, 4*one, half), mat.Diag(by(4*one, 2*one, half))},
		{turn, api.Vec{}, api.Mat{}},
		{of(by(one, one, 0), by(0, one, 0), by(0, 0, -one)), by(one, 2*one, 3*one), of(by(3*one, 2*one, 0), by(2*one, 2*one, 0), by(0, 0, 3*one))},
		// Rounded once: neither the products with d, nor those of the three, nor their sums before the last.
		{of(by(half, 0, 0), by(2*one, 0, 0), by(0, 0, 0)), by(1, 0, 0), of(by(0, 1, 0), by(1, 4, 0), by(0, 0, 0))},
		{of(by(half, half, 0), by(half, -half, 0), by(0, 0, half)), by(2, 2, -2), of(by(1, 0, 0), by(0, 1, 0), by(0, 0, -1))},
		// The parts are out of bounds, the sum is not; what just fits, and what just does not.
		{of(by(most, most, one), by(one, 0, 0), by(one, 0, one)), by(one, -one, 7), of(by(7, most, most), by(most, one, one), by(most, one, one+7))},
		{of(by(one, 0, 0), by(one, one, 0), by(one, 0, one)), by(most, 1, -1), of(by(most, most, most), by(most, most, most), by(most, most, most-1))},
		{of(by(one, 0, 0), by(one, one, 0), by(-one, 0, one)), by(least, -1, 1), of(by(least, least, most), by(least, least, most), by(most, most, least+1))},
	} {
		if got := mat.Between(c.r, c.d); got != c.want {
			t.Error("Between", c.r, c.d, got)
		}
	}
}

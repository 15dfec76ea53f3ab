package quat_test

import (
	"math/big"
	"slices"
	"testing"

	"ninepin/api"
	"ninepin/quat"
)

// P5.1

func TestOne(t *testing.T) {
	if got := quat.One(); got != by(one, 0, 0, 0) {
		t.Error("One", got)
	}
}

func TestCheckOfAll(t *testing.T) {
	for _, q := range append(quats(), turns()...) {
		want := api.ErrTurn
		if isTurn(q) {
			want = api.OK
		}
		if got := quat.Check(q); got != want {
			t.Error("Check", q, got)
		}
	}
}

func TestCheckAboutTheLimits(t *testing.T) {
	for _, q := range slices.Concat(leastTurns, greatestTurns, justTurns) {
		if got := quat.Check(q); got != api.OK {
			t.Error("Check of a rotation", q, got)
		}
	}
	for _, q := range slices.Concat(justNone, farNone) {
		if got := quat.Check(q); got != api.ErrTurn {
			t.Error("Check of none", q, got)
		}
	}
}

// TestTheLimits: what the tests take to lie about the limits does.
func TestTheLimits(t *testing.T) {
	tell := func(l []api.Quat, of *big.Int, least, most int64) {
		for _, q := range l {
			if off := new(big.Int).Sub(square(q), of); off.Cmp(big.NewInt(least)) < 0 || off.Cmp(big.NewInt(most)) > 0 {
				t.Error("not about the limit", q, off)
			}
		}
	}
	tell(leastTurns, power(62), 0, 0)
	tell(greatestTurns, power(66), 0, 0)
	tell(justTurns[:2], power(62), 1, 1)
	tell(justTurns[2:4], power(62), 1, 1<<34)
	tell(justTurns[4:6], power(66), -1, -1)
	tell(justTurns[6:], power(66), -1<<36, -1)
	tell(justNone[:2], power(62), -1, -1)
	tell(justNone[2:4], power(62), -1<<34, -1)
	tell(justNone[4:6], power(66), 1, 1)
	tell(justNone[6:], power(66), 1, 1<<36)
}

func TestBack(t *testing.T) {
	if got := quat.Back(by(one, 2*one, -3*one, 0)); got != by(one, -2*one, 3*one, 0) {
		t.Error("Back", got)
	}
	if got := quat.Back(by(least, least, least+1, most)); got != by(least, most, most, -most) {
		t.Error("Back about the limits", got)
	}
	for _, q := range quats() {
		got, want := list(quat.Back(q)), list(q)
		for i := range want {
			if i > 0 {
				want[i] = within(new(big.Int).Neg(raw(want[i])))
			}
		}
		if got != want {
			t.Error("Back", q, got)
		}
	}
}

// P5.2

func TestMulOfAllPairs(t *testing.T) {
	l := quats()
	for _, p := range l {
		for _, q := range l {
			want, got := product(raws(p), raws(q)), list(quat.Mul(p, q))
			for i := range got {
				if got[i] != brought(want[i], 64) {
					t.Fatal("Mul", p, q, i, got, want)
				}
			}
		}
	}
}

func TestMulOfUnits(t *testing.T) {
	i, j, k, less := by(0, one, 0, 0), by(0, 0, one, 0), by(0, 0, 0, one), by(-one, 0, 0, 0)
	for _, c := range []struct{ p, q, want api.Quat }{
		{i, j, k}, {j, k, i}, {k, i, j},
		{j, i, quat.Back(k)}, {k, j, quat.Back(i)}, {i, k, quat.Back(j)},
		{i, i, less}, {j, j, less}, {k, k, less},
		{less, i, quat.Back(i)}, {less, less, quat.One()},
	} {
		if got := quat.Mul(c.p, c.q); got != c.want {
			t.Error("Mul", c.p, c.q, got)
		}
	}
}

func TestMulExamples(t *testing.T) {
	for _, c := range []struct{ p, q, want api.Quat }{
		{by(one, 2*one, 3*one, 4*one), by(5*one, 6*one, 7*one, 8*one), by(-60*one, 12*one, 30*one, 24*one)},
		{by(5*one, 6*one, 7*one, 8*one), by(one, 2*one, 3*one, 4*one), by(-60*one, 20*one, 14*one, 32*one)},
		{api.Quat{}, by(least, most, least, most), api.Quat{}},
		// Halves of the last bit count together, though each alone is rounded to nothing.
		{by(1, 1, 0, 0), by(half, -half, 0, 0), by(1, 0, 0, 0)},
		{by(1, 1, 0, 0), by(half, half, 0, 0), by(0, 1, 0, 0)},
		{by(1, 0, 1, 1), by(-half, 0, half, half), by(-2, 0, 0, 0)},
		{by(0, 0, 0, 1), by(1, 0, 0, -1), by(0, 0, 0, 0)},
		{by(0, 0, 0, 1), by(-1, 0, 0, 1), by(-1, 0, 0, -1)},
		// The parts are out of bounds, the sums are not.
		{by(most, most, 0, 1), by(2*one, 2*one, 0, -7*one), by(7, most, most, least)},
		{by(least, least, least, least), by(2*one, 2*one, 0, 0), by(0, least, least, 0)},
		// What just fits, and what just does not.
		{by(most, 1, 0, 0), by(one, 0, 0, 0), by(most, 1, 0, 0)},
		{by(most, 1, 0, 0), by(one, -one, 0, 0), by(most, 1-most, 0, 0)},
		{by(most, 1, 0, 0), by(one, one, 0, 0), by(most-1, most, 0, 0)},
		{by(least, 0, 0, 0), by(-one, one, 0, 0), by(most, least, 0, 0)},
		{by(least, 0, 1, 0), by(one, 0, one, 0), by(least, 0, least+1, 0)},
		{by(least, 0, 1, 0), by(one, 0, -one, 0), by(least+1, 0, most, 0)},
		{by(least, least, least, least), by(least, least, least, least), by(least, most, most, most)},
	} {
		if got := quat.Mul(c.p, c.q); got != c.want {
			t.Error("Mul", c.p, c.q, got, c.want)
		}
	}
}

// P5.3

// signedSquare grows with n, so that numbers can be held against roots by it.
func signedSquare(n *big.Int) *big.Int { return new(big.Int).Mul(n, new(big.Int).Abs(n)) }

func TestUnitOfAll(t *testing.T) {
	for _, q := range turns() {
		u, e := quat.Unit(q)
		if e != api.OK {
			t.Fatal("Unit", q, e)
		}
		whole, was := square(q), raws(q)
		for i, n := range list(u) {
			exact := new(big.Int).Mul(signedSquare(was[i]), power(64))
			down := new(big.Int).Mul(signedSquare(raw(n)), whole)
			next := new(big.Int).Mul(signedSquare(raw(n+1)), whole)
			if down.Cmp(exact) > 0 || next.Cmp(exact) <= 0 {
				t.Error("Unit", q, i, u)
			}
		}
	}
}

func TestUnitExamples(t *testing.T) {
	const root = 3037000499 // half of the root of 2, rounded down
	for _, c := range []struct{ q, want api.Quat }{
		{by(2*one, 0, 0, 0), quat.One()},
		{by(half, 0, 0, 0), quat.One()},
		{by(0, 0, 0, -2*one), by(0, 0, 0, -one)},
		{by(0, -half, 0, 0), by(0, -one, 0, 0)},
		{by(one, -one, one, -one), by(half, -half, half, -half)},
		{by(one/4, one/4, -one/4, -one/4), by(half, half, -half, -half)},
		// Rounded down, below 0 too; and not at all where the number is exact.
		{by(one, -one, 0, 0), by(root, -root-1, 0, 0)},
		{by(0, 0, -half, half), by(0, 0, -root-1, root)},
		{by(3*one/4, -3*one/4, 0, 0), by(root, -root-1, 0, 0)},
		{by(3*one/4, 0, -one, 0), by(2576980377, 0, -3435973837, 0)},
		{by(-3*one/4, 0, 0, one), by(-2576980378, 0, 0, 3435973836)},
		// Less than a last bit, from where it counts.
		{by(one, 1, -1, 0), by(one-1, 0, -1, 0)},
		{by(half, 1, -1, 0), by(one-1, 1, -2, 0)},
		{by(-2*one+1, 1, -1, 0), by(-one, 0, -1, 0)},
	} {
		if got, e := quat.Unit(c.q); e != api.OK || got != c.want {
			t.Error("Unit", c.q, got, e)
		}
	}
}

func TestUnitRefused(t *testing.T) {
	for _, q := range slices.Concat(justNone, farNone) {
		if got, e := quat.Unit(q); e != api.ErrTurn || got != (api.Quat{}) {
			t.Error("Unit of none", q, got, e)
		}
	}
}

// P5.4

// turned is the vector that the rotation makes of the unit along an axis, times the square: q, the unit, q back.
func turned(q api.Quat, axis int) [3]*big.Int {
	var along four[api.Fix]
	along[axis+1] = 1
	there := product(raws(q), raws(by(along[0], along[1], along[2], along[3])))
	l := product(there, raws(by(q.W, -q.X, -q.Y, -q.Z)))
	return [3]*big.Int(l[1:])
}

func TestMatrixOfAll(t *testing.T) {
	for _, q := range turns() {
		m, e := quat.Matrix(q)
		if e != api.OK {
			t.Fatal("Matrix", q, e)
		}
		got, whole := table(m), square(q)
		for j := range 3 {
			for i, n := range turned(q, j) {
				// Div by what is above 0 goes down.
				if want := within(n.Div(n.Lsh(n, 32), whole)); got[i][j] != want {
					t.Error("Matrix", q, i, j, got, want)
				}
			}
		}
	}
}

func rows(a, b, c api.Vec) api.Mat { return api.Mat{R: [3]api.Vec{a, b, c}} }

func row(x, y, z api.Fix) api.Vec { return api.Vec{X: x, Y: y, Z: z} }

func TestMatrixExamples(t *testing.T) {
	around := rows(row(0, 0, one), row(one, 0, 0), row(0, one, 0))
	for _, c := range []struct {
		q    api.Quat
		want api.Mat
	}{
		{quat.One(), rows(row(one, 0, 0), row(0, one, 0), row(0, 0, one))},
		{by(-half, 0, 0, 0), rows(row(one, 0, 0), row(0, one, 0), row(0, 0, one))},
		{by(0, one, 0, 0), rows(row(one, 0, 0), row(0, -one, 0), row(0, 0, -one))},
		{by(0, 0, -2*one, 0), rows(row(-one, 0, 0), row(0, one, 0), row(0, 0, -one))},
		{by(0, 0, 0, one), rows(row(-one, 0, 0), row(0, -one, 0), row(0, 0, one))},
		{by(one, one, 0, 0), rows(row(one, 0, 0), row(0, 0, -one), row(0, one, 0))},
		{by(one, 0, one, 0), rows(row(0, 0, one), row(0, one, 0), row(-one, 0, 0))},
		{by(one, 0, 0, one), rows(row(0, -one, 0), row(one, 0, 0), row(0, 0, one))},
		{by(one, one, one, one), around},
		{by(one/4, one/4, one/4, one/4), around},
		// 3/5 and 4/5 are no numbers: they are rounded down, and so is what is below 0.
		{by(one, half, 0, 0), rows(row(one, 0, 0), row(0, 2576980377, -3435973837), row(0, 3435973836, 2576980377))},
		{by(half, 0, 0, one), rows(row(-2576980378, -3435973837, 0), row(3435973836, -2576980378, 0), row(0, 0, one))},
		// Small parts: twice the last bit along it, the ones from corner to corner all but so.
		{by(one, 1, 0, 0), rows(row(one, 0, 0), row(0, one-1, -2), row(0, 1, one-1))},
		{by(half, 0, 1, 0), rows(row(one-1, 0, 3), row(0, one, 0), row(-4, 0, one-1))},
		{by(2*one-1, 0, 0, 1), rows(row(one-1, -2, 0), row(1, one-1, 0), row(0, 0, one))},
	} {
		if got, e := quat.Matrix(c.q); e != api.OK || got != c.want {
			t.Error("Matrix", c.q, got, e)
		}
	}
}

func TestMatrixRefused(t *testing.T) {
	for _, q := range slices.Concat(justNone, farNone) {
		if got, e := quat.Matrix(q); e != api.ErrTurn || got != (api.Mat{}) {
			t.Error("Matrix of none", q, got, e)
		}
	}
}

// P5.5

func TestSpinOfAll(t *testing.T) {
	told := 0
	for _, q := range quats() {
		for _, w := range speeds() {
			way := product(raws(by(0, w.X, w.Y, w.Z)), raws(q))
			for _, time := range append(plain, least, most, one/60) {
				got, was := list(quat.Spin(q, w, time)), raws(q)
				for i := range got {
					exact := new(big.Int).Mul(way[i], raw(time))
					exact.Add(exact, new(big.Int).Lsh(was[i], 65))
					if got[i] != brought(exact, 97) {
						t.Fatal("Spin", q, w, time, i, got)
					}
					if least < got[i] && got[i] < most && got[i] != list(q)[i] {
						told++
					}
				}
			}
		}
	}
	if told < 1000 {
		t.Error("too few are within to tell", told)
	}
}

func TestSpinExamples(t *testing.T) {
	const low = one + half/2 + least/2
	for _, c := range []struct {
		q    api.Quat
		w    api.Vec
		t    api.Fix
		want api.Quat
	}{
		{quat.One(), row(0, 0, one), one, by(one, 0, 0, half)},
		{quat.One(), row(2*one, -4*one, 6*one), half, by(one, half, -one, 3*half)},
		{by(0, one, 0, 0), row(0, 0, 2*one), one, by(0, one, one, 0)},
		{by(0, 0, one, 0), row(0, 0, 2*one), one, by(0, -one, one, 0)},
		{by(0, 0, 0, one), row(0, 0, 2*one), one, by(-one, 0, 0, one)},
		{by(one, 0, 0, one), row(0, 2*one, 0), -one, by(one, -one, -one, one)},
		// Half of the time is not rounded, nor are the products before they are added.
		{quat.One(), row(0, one, -one), 1, by(one, 0, 0, -1)},
		{quat.One(), row(0, 2*one, -2*one), 1, by(one, 0, 1, -1)},
		{quat.One(), row(one, -one, 0), 3, by(one, 1, -2, 0)},
		{by(1, 0, 0, 0), row(one, -one, 2*one), one, by(1, 0, -1, 1)},
		{by(0, 1, 1, 0), row(-one, -one, 0), one, by(1, 1, 1, 0)},
		// The parts are out of bounds, the sums are not.
		{by(most, most, 0, 0), row(4*one, 0, 0), one, by(-most, most, 0, 0)},
		{by(0, most, -most, 0), row(most, most, 0), most, by(0, most, -most, least)},
		{by(least, 0, 0, 0), row(0, 0, one), -most, by(least, 0, 0, most)},
		// What just fits, and what just does not.
		{by(one, most-half, 0, 0), row(one, 0, 0), one, by(low, most, 0, 0)},
		{by(one, most-half+1, 0, 0), row(one, 0, 0), one, by(low, most, 0, 0)},
		{by(one, most-half-1, 0, 0), row(one, 0, 0), one, by(low+1, most-1, 0, 0)},
		{by(one, 0, least+half, 0), row(0, -one, 0), one, by(low, 0, least, 0)},
		{by(one, 0, least+half-1, 0), row(0, -one, 0), one, by(low-1, 0, least, 0)},
	} {
		if got := quat.Spin(c.q, c.w, c.t); got != c.want {
			t.Error("Spin", c.q, c.w, c.t, got, c.want)
		}
	}
}

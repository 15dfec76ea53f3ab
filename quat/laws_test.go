package quat_test

import (
	"math/big"
	"testing"

	"ninepin/api"
	"ninepin/quat"
)

// nearOne: is a square, with 64 bits behind the point, off 1 by at most 2^bits of the last?
func nearOne(square *big.Int, bits uint) bool {
	off := new(big.Int).Sub(square, power(64))
	return off.CmpAbs(power(bits)) <= 0
}

// less is 0 less q; no number of q is MinFix.
func less(q api.Quat) api.Quat { return by(-q.W, -q.X, -q.Y, -q.Z) }

// P5.6

func TestUnitIsOne(t *testing.T) {
	for _, q := range turns() {
		u, e := quat.Unit(q)
		if e != api.OK || quat.Check(u) != api.OK || !nearOne(square(u), 64-29) {
			t.Error("Unit", q, u, e)
		}
		if _, e := quat.Unit(u); e != api.OK {
			t.Error("Unit of a unit", q, u, e)
		}
	}
}

func TestByOne(t *testing.T) {
	for _, q := range append(quats(), turns()...) {
		if quat.Mul(quat.One(), q) != q || quat.Mul(q, quat.One()) != q {
			t.Error("Mul by One", q)
		}
	}
}

func TestMatrixOfLess(t *testing.T) {
	for _, q := range turns() {
		m, e := quat.Matrix(q)
		other, f := quat.Matrix(less(q))
		if e != api.OK || f != api.OK || m != other {
			t.Error("Matrix of 0 less q", q, m, other)
		}
		for _, r := range table(m) {
			for _, n := range r {
				if n < -one || n > one {
					t.Error("a number of a Matrix", q, m)
				}
			}
		}
	}
}

// P5.7

func TestRowsAndColumns(t *testing.T) {
	for _, q := range turns() {
		m, e := quat.Matrix(q)
		if e != api.OK {
			t.Fatal("Matrix", q, e)
		}
		l := table(m)
		for i, r := range l {
			if !nearOne(squareOf(r[0], r[1], r[2]), 64-30) {
				t.Error("a row's square", q, m, i)
			}
			if !nearOne(squareOf(l[0][i], l[1][i], l[2][i]), 64-30) {
				t.Error("a column's square", q, m, i)
			}
		}
	}
}

func TestMatrixOfBack(t *testing.T) {
	skew := 0
	for _, q := range turns() {
		m, e := quat.Matrix(q)
		back, f := quat.Matrix(quat.Back(q))
		if e != api.OK || f != api.OK {
			t.Fatal("Matrix", q, e, f)
		}
		there, here := table(m), table(back)
		for i := range 3 {
			for j := range 3 {
				if there[i][j] != here[j][i] {
					t.Error("Matrix of Back", q, m, back)
				}
				if there[i][j] != there[j][i] {
					skew++
				}
			}
		}
	}
	if skew < 1000 {
		t.Error("too few change when turned over to tell", skew)
	}
}

// P5.8

func TestSpinOfNothing(t *testing.T) {
	for _, q := range append(quats(), turns()...) {
		for _, time := range append(edges, one/60) {
			if got := quat.Spin(q, api.Vec{}, time); got != q {
				t.Error("Spin by 0", q, time, got)
			}
		}
		for _, w := range speeds() {
			if got := quat.Spin(q, w, 0); got != q {
				t.Error("Spin for no time", q, w, got)
			}
		}
	}
}

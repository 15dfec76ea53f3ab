package mat_test

import (
	"testing"

	"ninepin/api"
	"ninepin/fix"
	"ninepin/mat"
)

// inside: has it not been brought in from beyond the limits, as far as it tells?
func inside(n api.Fix) bool { return least < n && n < most }

// P4.6

func TestByOne(t *testing.T) {
	for _, v := range vectors() {
		if got := mat.Apply(mat.One(), v); got != v {
			t.Error("Apply of One", v, got)
		}
	}
	for _, m := range matrices() {
		if mat.Mul(m, mat.One()) != m || mat.Mul(mat.One(), m) != m {
			t.Error("Mul by One", m)
		}
	}
}

func TestTurnedOver(t *testing.T) {
	l := matrices()
	for _, a := range l {
		if mat.Turned(mat.Turned(a)) != a {
			t.Error("Turned twice", a)
		}
		for _, b := range l {
			if mat.Turned(mat.Mul(a, b)) != mat.Mul(mat.Turned(b), mat.Turned(a)) {
				t.Fatal("Turned of a product", a, b)
			}
		}
		for _, d := range vectors() {
			if m := mat.Between(a, d); mat.Turned(m) != m {
				t.Fatal("Between turned over", a, d, m)
			}
		}
	}
}

// P4.7

func TestSignsOfDet(t *testing.T) {
	if got := mat.Det(mat.One()); got != one {
		t.Error("Det of One", got)
	}
	same, lower := 0, 0
	for _, m := range matrices() {
		straight := mat.Det(m)
		if mat.Det(mat.Turned(m)) != straight {
			t.Error("Det of it turned over", m)
		}
		for _, swap := range [][2]int{{0, 1}, {0, 2}, {1, 2}} {
			other := m
			other.R[swap[0]], other.R[swap[1]] = m.R[swap[1]], m.R[swap[0]]
			exchanged := mat.Det(other)
			if !inside(straight) || !inside(exchanged) {
				continue
			}
			switch exchanged {
			case -straight:
				same++
			case -straight - 1:
				lower++
			default:
				t.Error("Det with two rows exchanged", m, swap, straight, exchanged)
			}
		}
	}
	if same < 50 || lower < 50 {
		t.Error("too few are within to tell", same, lower)
	}
}

// P4.8

func TestDiagBack(t *testing.T) {
	told := 0
	for _, v := range vectors() {
		back, ok := mat.Inverse(mat.Diag(v))
		if v.X == 0 || v.Y == 0 || v.Z == 0 {
			if ok || back != (api.Mat{}) {
				t.Error("Inverse of Diag with a zero", v, back)
			}
			continue
		}
		told++
		if !ok || back != mat.Diag(by(fix.Div(one, v.X), fix.Div(one, v.Y), fix.Div(one, v.Z))) {
			t.Error("Inverse of Diag", v, back)
		}
		for _, w := range vectors() {
			x, ok := mat.Solve(mat.Diag(v), w)
			if !ok || x != by(fix.Div(w.X, v.X), fix.Div(w.Y, v.Y), fix.Div(w.Z, v.Z)) {
				t.Error("Solve of Diag", v, w, x)
			}
		}
	}
	if told < 15 {
		t.Error("too few are without a zero to tell", told)
	}
}

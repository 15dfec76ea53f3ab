package mass_test

import (
	"math/big"
	"testing"

	"ninepin/api"
	"ninepin/mass"
	"ninepin/mat"
	"ninepin/quat"
	"ninepin/shape"
)

// asked holds what Of answers of a shape and a mass that may be against what it has to.
func asked(t *testing.T, s api.Shape, m api.Fix) {
	t.Helper()
	if got, e := mass.Of(s, m); got != want(s, m) || e != api.OK {
		t.Error("Of", s, m, got, e, want(s, m))
	}
}

// refused holds the error that Of answers, and what stands beside it, against what it has to be.
func refused(t *testing.T, s api.Shape, m api.Fix, e api.Errno) {
	t.Helper()
	if got, f := mass.Of(s, m); got != (api.Mass{}) || f != e {
		t.Error("Of", s, m, got, f, e)
	}
}

// P10.1

func TestOfAllPairs(t *testing.T) {
	for _, s := range shapes(1, 300) {
		for _, m := range masses(1, 20) {
			asked(t, s, m)
		}
	}
}

func TestOfExamples(t *testing.T) {
	for _, c := range []struct {
		s    api.Shape
		m    api.Fix
		want api.Vec
	}{
		{box(0, one, one, one), 3 * one, at(2*one, 2*one, 2*one)},
		{box(0, one, 2*one, 3*one), 3 * one, at(13*one, 10*one, 5*one)},
		{box(one, one, 2*one, 3*one), 3 * one, at(25*one, 20*one, 13*one)},
		{ball(one), 3 * one, at(2*one, 2*one, 2*one)},
		{ball(2 * one), half, at(4*one/3, 4*one/3, 4*one/3)},
		{capsule(one, 2*one), 3 * one, at(10*one, 10*one, 2*one)},
		{solid(0, at(0, 0, 0), at(one, 0, 0), at(0, -2*one, 0), at(0, 0, 3*one)), 3 * one, at(13*one, 10*one, 5*one)},
		{solid(one, at(0, 0, 0), at(one, 0, 0), at(0, -2*one, 0), at(0, 0, 3*one)), 3 * one, at(25*one, 20*one, 13*one)},
		// About the middle of the shape's own axes, wherever its points stand.
		{solid(0, at(3*one, 3*one, 3*one), at(2*one, 3*one, 3*one), at(3*one, 2*one, 3*one), at(3*one, 3*one, 2*one)), 3 * one, at(18*one, 18*one, 18*one)},
		// What is lost where thirds, or squares, or their sum is rounded first.
		{ball(size), one, at(11728124029610, 11728124029610, 11728124029610)},
		{box(0, step, step, step), heavy, at(699050, 699050, 699050)},
		{box(0, one, step+1, step), 3 * one, at(2, one+1, one+1)},
		{ball(1), heavy, api.Vec{}},
		{ball(1), light, api.Vec{}},
		{ball(1 << 8), heavy, at(10, 10, 10)},
		{box(0, step, step, step), light, api.Vec{}},
		{box(0, step, step, step), one, api.Vec{}},
		{box(0, step, step, step), 3 * half, at(1, 1, 1)},
		{box(0, step, step, step), 3*half - 1, api.Vec{}},
		// 3 2^18 by 8192 by 3 is 2^31, just beyond the greatest number.
		{box(0, size, size, size), 3 << 50, at(most, most, most)},
		{box(0, size, size, size), 3<<50 - 1, at(most-2730, most-2730, most-2730)},
		{box(0, size, size, size), heavy, at(most, most, most)},
		{box(size, size, size, size), heavy, at(most, most, most)},
		{box(0, size, size, step), 3 << 50, at(1<<62+1<<18, 1<<62+1<<18, most)},
		{capsule(step, size-step), 3 << 50, at(1<<62+1<<18, 1<<62+1<<18, 1<<19)},
		{capsule(size, size), 3 << 50, at(most, most, most)},
		{capsule(size, size), 3 << 48, at(5<<60, 5<<60, 1<<61)},
	} {
		if got, e := mass.Of(c.s, c.m); got != (api.Mass{M: c.m, I: c.want}) || e != api.OK {
			t.Error("Of", c.s, c.m, got, e)
		}
	}
}

func TestOfAboutTheGreatestNumber(t *testing.T) {
	m := making(2)
	told := 0
	for range 2000 {
		s := m.shape()
		for i, n := range exactMoments(s, one) {
			// The least mass with which this moment does not fit: 2^31 by what it is of 1, rounded up.
			n.Quo(new(big.Rat).SetInt(power(31)), n)
			k := brought(n) + 1
			if exact(k-1).Cmp(n) == 0 {
				k--
			}
			if k <= light || k > heavy {
				continue
			}
			told++
			for j := k - 2; j <= min(k+1, heavy); j++ {
				asked(t, s, j)
			}
			over, _ := mass.Of(s, k)
			under, _ := mass.Of(s, k-1)
			if list(over.I)[i] != most || list(under.I)[i] < most-1<<14 {
				t.Error("about the greatest number", s, k, over, under)
			}
		}
	}
	if told < 300 {
		t.Error("too few to tell", told)
	}
}

func TestOfByTheHalves(t *testing.T) {
	// All that have the same halves have the same moments.
	m := making(3)
	for range 500 {
		r, x, y, z := m.length()/2, m.length()/2+size/2, m.length()/2+size/2, m.length()/2+size/2
		k := m.mass()
		first, e := mass.Of(box(0, x, y, z), k)
		if e != api.OK {
			t.Fatal("Of", x, y, z, k, e)
		}
		for _, s := range []api.Shape{box(r, x-r, y-r, z-r), wedge(0, x, y, z), wedge(r, x, y, z)} {
			if x-r < step || y-r < step || z-r < step {
				continue
			}
			if got, e := mass.Of(s, k); got != first || e != api.OK {
				t.Error("other moments of the same halves", s, k, got, e, first)
			}
		}
	}
	for _, s := range shapes(4, 300) {
		h, _ := shape.Half(s)
		if list(h) != halves(s) {
			t.Error("other halves", s, h)
		}
	}
}

func TestMassesThatMayBe(t *testing.T) {
	for _, s := range append(plain(), edges()...) {
		for _, m := range []api.Fix{light, light + 1, one, heavy - 1, heavy} {
			asked(t, s, m)
		}
		for _, m := range noMasses() {
			refused(t, s, m, api.ErrArg)
		}
	}
}

func TestTheLimits(t *testing.T) {
	s := ball(one)
	for _, c := range []struct {
		m api.Fix
		e api.Errno
	}{{1 << 24, api.OK}, {1<<24 - 1, api.ErrArg}, {1 << 52, api.OK}, {1<<52 + 1, api.ErrArg}} {
		if _, e := mass.Of(s, c.m); e != c.e {
			t.Error("a mass of raw", c.m, e)
		}
	}
}

func TestShapesThatMayNotBe(t *testing.T) {
	all := append(append(masses(5, 5), noMasses()...), 0)
	for _, m := range all {
		for _, s := range arg() {
			refused(t, s, m, api.ErrArg)
		}
		// What layer 9 has against a shape goes ahead of what there is against a mass.
		for _, s := range flat() {
			refused(t, s, m, api.ErrFlat)
		}
	}
	for _, s := range arg() {
		if shape.Check(s) != api.ErrArg {
			t.Error("a shape that may be", s)
		}
	}
}

// P10.2

func TestBackExamples(t *testing.T) {
	for _, c := range []struct{ n, want api.Fix }{
		{0, 0}, {-1, 0}, {-one, 0}, {least, 0}, {least + 1, 0},
		{1, most}, {2, most}, {3, 6148914691236517205}, {4, 1 << 62}, {5, 3689348814741910323},
		{one, one}, {one + 1, one - 1}, {one - 1, one + 1}, {2 * one, half}, {half, 2 * one}, {3 * one, 1431655765}, {-3 * one, 0},
		{light, 256 * one}, {heavy, 1 << 12}, {most, 2}, {most - 1, 2}, {1 << 62, 4}, {1<<62 + 1, 3},
	} {
		if wantBack(c.n) != c.want {
			t.Error("wantBack", c.n, wantBack(c.n))
		}
		backs(t, api.Mass{M: c.n})
		backs(t, api.Mass{I: at(c.n, 0, 0)})
		backs(t, api.Mass{I: at(0, c.n, 0)})
		backs(t, api.Mass{I: at(0, 0, c.n)})
		backs(t, api.Mass{M: c.n, I: at(c.n, c.n, c.n)})
		backs(t, api.Mass{M: -c.n, I: at(one, c.n, 3*one)})
	}
	if got := mass.Back(api.Mass{M: 2 * one, I: at(4*one, 0, half)}); got != (api.Mass{M: half, I: at(one/4, 0, 2*one)}) {
		t.Error("Back", got)
	}
	if got := mass.Back(api.Mass{M: 0, I: at(one, 2*one, 4*one)}); got != (api.Mass{I: at(one, half, one/4)}) {
		t.Error("Back of a mass of 0", got)
	}
}

// backs holds what Back answers against what it has to.
func backs(t *testing.T, m api.Mass) {
	t.Helper()
	want := api.Mass{M: wantBack(m.M), I: at(wantBack(m.I.X), wantBack(m.I.Y), wantBack(m.I.Z))}
	if got := mass.Back(m); got != want {
		t.Error("Back", m, got, want)
	}
}

func TestBackOfAll(t *testing.T) {
	m := making(6)
	for range 5000 {
		backs(t, api.Mass{M: m.some(), I: m.vec()})
		backs(t, api.Mass{M: m.mass(), I: m.moments()})
	}
	for _, s := range shapes(7, 300) {
		of, _ := mass.Of(s, m.mass())
		backs(t, of)
	}
}

// P10.3

func TestTurnedExamples(t *testing.T) {
	i := at(one, 2*one, 3*one)
	odd := at(most, least, 1)
	for _, c := range []struct {
		i    api.Vec
		q    api.Quat
		want api.Mat
	}{
		{i, quat.One(), mat.Diag(i)},
		{i, api.Quat{W: -one}, mat.Diag(i)},
		// A half about an axis, by a quaternion that is no unit; the least, and the greatest one.
		{i, api.Quat{X: 2 * one}, mat.Diag(i)},
		{i, api.Quat{Z: -half}, mat.Diag(i)},
		{odd, quat.One(), mat.Diag(odd)},
		{odd, api.Quat{Y: 2 * one}, mat.Diag(odd)},
		{at(least, least, least), api.Quat{W: half}, mat.Diag(at(least, least, least))},
		{at(most, most, most), api.Quat{W: 2 * one}, mat.Diag(at(most, most, most))},
		{api.Vec{}, api.Quat{W: one, X: half, Y: -half, Z: 1}, api.Mat{}},
		// A quarter: two moments change places.
		{i, api.Quat{W: one, X: one}, mat.Diag(at(one, 3*one, 2*one))},
		{i, api.Quat{W: one, Y: -one}, mat.Diag(at(3*one, 2*one, one))},
		{i, api.Quat{W: half, Z: half}, mat.Diag(at(2*one, one, 3*one))},
		{odd, api.Quat{W: one, Z: one}, mat.Diag(at(least, most, 1))},
		// A third about the line between all three: X goes to Y, Y to Z, Z to X.
		{i, api.Quat{W: half, X: half, Y: half, Z: half}, mat.Diag(at(3*one, one, 2*one))},
		{i, api.Quat{W: one, X: -one, Y: -one, Z: -one}, mat.Diag(at(2*one, 3*one, one))},
		// The matrix is (3/5 -4/5 0, 4/5 3/5 0, 0 0 1), each number rounded down, and then nothing till the last.
		{at(25*one, 50*one, one), api.Quat{W: 2 * half, Z: half}, api.Mat{R: [3]api.Vec{at(176093659134, -51539607558, 0), at(-51539607558, 146028887996, 0), at(0, 0, one)}}},
	} {
		if got, e := mass.Turned(c.i, c.q); got != c.want || e != api.OK {
			t.Error("Turned", c.i, c.q, got, e)
		}
	}
}

func TestTurnedOfAll(t *testing.T) {
	m := making(8)
	for range 2000 {
		q := m.turn()
		for _, i := range []api.Vec{m.moments(), m.vec(), at(m.some(), m.some(), m.some())} {
			got, e := mass.Turned(i, q)
			if got != wantTurned(i, q) || e != api.OK {
				t.Fatal("Turned", i, q, got, e, wantTurned(i, q))
			}
			if r, f := quat.Matrix(q); got != mat.Between(r, i) || f != api.OK {
				t.Fatal("not Between of the rotation's matrix", i, q, got)
			}
		}
	}
}

func TestTurnedAboutTheLeastAndTheGreatestRotations(t *testing.T) {
	m := making(9)
	told := map[api.Errno]int{}
	for _, q := range []api.Quat{
		{W: half}, {Z: -half}, {W: half - 1}, {W: half - 1, X: 65535, Y: 362, Z: 5}, {W: half, X: 1}, {W: one / 4, X: one / 4, Y: -one / 4, Z: one / 4}, {W: one / 4, X: one / 4, Y: one/4 - 1, Z: one / 4},
		{W: 2 * one}, {Y: 2*one + 1}, {W: 2 * one, X: 1}, {W: one, X: one, Y: -one, Z: one}, {W: one, X: one, Y: one + 1, Z: one}, {W: 2*one - 1, X: 131069, Y: 810, Z: 361}, {X: one, Y: one, Z: one, W: one - 1},
		{}, {W: 1}, {W: most}, {X: least}, {W: least, X: least, Y: least, Z: least}, {W: most, X: most, Y: most, Z: most}, {W: one, Y: least},
	} {
		for _, i := range []api.Vec{at(one, 2*one, 3*one), {}, m.vec(), m.moments()} {
			var want api.Mat
			e := api.ErrTurn
			if isTurn(q) {
				want, e = wantTurned(i, q), api.OK
			}
			told[e]++
			if got, f := mass.Turned(i, q); got != want || f != e {
				t.Error("Turned", i, q, got, f)
			}
			if quat.Check(q) != e {
				t.Error("Check", q, e)
			}
		}
	}
	if told[api.OK] != 4*8 || told[api.ErrTurn] != 4*13 {
		t.Error("told", told)
	}
}

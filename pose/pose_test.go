package pose_test

import (
	"slices"
	"testing"

	"ninepin/api"
	"ninepin/grid"
	"ninepin/pose"
	"ninepin/quat"
	"ninepin/shape"
	"ninepin/vec"
)

// refused holds what all calls answer of a pose that may not be against what they have to.
func refused(t *testing.T, p api.Pose, e api.Errno) {
	t.Helper()
	if f := pose.Check(p); f != e {
		t.Error("Check", p, f)
	}
	for _, v := range []api.Vec{{}, at(one, 2*one, 3*one), p.P} {
		if a, f := pose.Out(p, v); a != (api.Vec{}) || f != e {
			t.Error("Out", p, v, a, f)
		}
		if a, f := pose.In(p, v); a != (api.Vec{}) || f != e {
			t.Error("In", p, v, a, f)
		}
		if q, clamped, f := pose.Move(p, v, at(0, one, 0), one); q != (api.Pose{}) || clamped || f != e {
			t.Error("Move", p, v, q, clamped, f)
		}
	}
	// What is wrong with a pose goes ahead of what is wrong with a shape.
	for _, s := range slices.Concat(plain(), arg(), flat()) {
		if l, f := pose.Points(p, s); len(l) != 0 || f != e {
			t.Error("Points", p, s, l, f)
		}
	}
}

// P11.1

func TestPosesThatMayBe(t *testing.T) {
	for _, p := range poses(1, 1000) {
		if e := pose.Check(p); e != api.OK {
			t.Error("Check", p, e)
		}
	}
}

func TestPosesThatMayNotBe(t *testing.T) {
	for _, p := range noPlaces() {
		// Whether Q is a rotation or not.
		for _, q := range slices.Concat(turns()[:3], noTurns()) {
			refused(t, posed(p, q), api.ErrBound)
		}
	}
	for _, p := range places() {
		for _, q := range noTurns() {
			refused(t, posed(p, q), api.ErrTurn)
		}
	}
	refused(t, api.Pose{}, api.ErrTurn)
}

func TestTheLimits(t *testing.T) {
	const end = 1 << 42
	for _, c := range []struct {
		n api.Fix
		e api.Errno
	}{{end, api.OK}, {end + 1, api.ErrBound}, {-end, api.OK}, {-end - 1, api.ErrBound}} {
		for _, p := range along(c.n, 0) {
			if e := pose.Check(posed(p, straight)); e != c.e {
				t.Error("a number of a place of raw", c.n, p, e)
			}
		}
	}
}

func TestCheckOfAll(t *testing.T) {
	m := making(2)
	told := map[api.Errno]int{}
	for range 5000 {
		p, q := m.any(), turn(m.about(2*one), m.about(2*one), m.about(one), m.about(half))
		if m.Intn(2) == 0 {
			p = m.vec(edge)
		}
		e := want(posed(p, q))
		told[e]++
		if f := pose.Check(posed(p, q)); f != e {
			t.Error("Check", p, q, f, e)
		}
	}
	if told[api.OK] < 500 || told[api.ErrBound] < 500 || told[api.ErrTurn] < 500 {
		t.Error("too few of a kind to tell", told)
	}
}

func TestOutAndInExamples(t *testing.T) {
	quarter, third := turn(half, 0, 0, half), turn(one, one, one, one)
	for _, c := range []struct {
		p      api.Pose
		in, to api.Vec
	}{
		{posed(at(one, 2*one, 3*one), turn(0, 0, 0, one)), at(one, one, one), at(0, one, 4*one)},
		{posed(at(one, 2*one, 3*one), straight), at(one, -one, 5), at(2*one, one, 3*one+5)},
		// A quarter to the left about Z, a third about the line between all three axes.
		{posed(at(10, 20, 30), quarter), at(1, 2, 3), at(8, 21, 33)},
		{posed(at(10, 20, 30), third), at(1, 2, 3), at(13, 21, 32)},
		{posed(at(-edge, edge, 0), third), at(size, 0, -size), at(-edge-size, edge+size, 0)},
		// By rotations that are no units, and at either end of what one may be.
		{posed(at(1, 1, 1), turn(0, half, 0, 0)), at(1, 2, 3), at(2, -1, -2)},
		{posed(at(1, 1, 1), turn(0, 0, -2*one, 0)), at(1, 2, 3), at(0, 3, -2)},
		// The greatest numbers.
		{posed(at(0, 0, 0), quarter), at(most, most, least), at(-most, most, least)},
		{posed(at(one, -one, 0), straight), at(most-one, least+one, most), at(most, least, most)},
		{posed(at(edge, -edge, edge), quarter), at(most, least+2*edge, least), at(most-edge+1, most-edge, least+edge)},
	} {
		if v, e := pose.Out(c.p, c.in); v != c.to || e != api.OK {
			t.Error("Out", c.p, c.in, v, e, c.to)
		}
		if v, e := pose.In(c.p, c.to); v != c.in || e != api.OK {
			t.Error("In", c.p, c.to, v, e, c.in)
		}
	}
}

func TestWhatIsBroughtIn(t *testing.T) {
	quarter := turn(one, 0, 0, one)
	for _, c := range []struct {
		p           api.Pose
		v, out, in1 api.Vec
	}{
		// The sum is beyond either end; the difference is a number.
		{posed(at(edge, edge, edge), straight), at(most, most-edge+1, most-edge), at(most, most, most), at(most-edge, most-2*edge+1, most-2*edge)},
		{posed(at(-edge, -edge, -edge), straight), at(least, least+edge-1, least+edge), at(least, least, least), at(least+edge, least+2*edge-1, least+2*edge)},
		// The difference is none, whichever way.
		{posed(at(-1, -edge, 1), straight), at(most, most, least), at(most-1, most-edge, least+1), at(most, most, least)},
		{posed(at(1, 0, 0), quarter), at(least, 0, 0), at(1, least, 0), at(0, most, 0)},
		{posed(at(0, 1, 0), quarter), at(0, least, 0), at(most, 1, 0), at(least, 0, 0)},
		{posed(at(0, -5, 0), quarter), at(0, least, 0), at(most, -5, 0), at(least+5, 0, 0)},
		// The product alone is beyond, with P it is not.
		{posed(at(-1, 0, 0), quarter), at(0, least, 0), at(most, 0, 0), at(least, -1, 0)},
		{posed(at(-9, 0, 0), quarter), at(0, least, 0), at(most-8, 0, 0), at(least, -9, 0)},
	} {
		if v, e := pose.Out(c.p, c.v); v != c.out || e != api.OK {
			t.Error("Out", c.p, c.v, v, e, c.out)
		}
		if v, e := pose.In(c.p, c.v); v != c.in1 || e != api.OK {
			t.Error("In", c.p, c.v, v, e, c.in1)
		}
	}
}

func TestNumbersAreRoundedOnce(t *testing.T) {
	// The matrix is (3/5 -4/5 0, 4/5 3/5 0, 0 0 1), each number rounded down: 2576980377, -3435973837, 3435973836 by 2^32.
	p := posed(at(7, -7, 0), turn(one, 0, 0, half))
	for _, c := range []struct{ v, out, in api.Vec }{
		// 3/5 and 4/5 of a last bit are together more than one, and each alone is nothing.
		{at(1, -1, 0), at(7+1, -7+0, 0), at(1, 8, 0)},
		{at(2, 1, 0), at(7+0, -7+2, 0), at(3, 8, 0)},
		{at(1, 0, 1), at(7, -7, 1), at(1, 8, 1)},
		{at(5, 0, 0), at(7+2, -7+3, 0), at(4, 5, 0)},
		{at(-5, 0, 0), at(7-3, -7-4, 0), at(-2, 13, 0)},
	} {
		if c.out != wantOut(p, c.v) || c.in != wantIn(p, c.v) {
			t.Error("by the oracle", c.v, wantOut(p, c.v), wantIn(p, c.v))
		}
		if v, e := pose.Out(p, c.v); v != c.out || e != api.OK {
			t.Error("Out", c.v, v, e, c.out)
		}
		if v, e := pose.In(p, c.v); v != c.in || e != api.OK {
			t.Error("In", c.v, v, e, c.in)
		}
	}
}

func TestOutAndInOfAll(t *testing.T) {
	m := making(3)
	told := map[string]int{}
	kind := func(v api.Vec) {
		for _, n := range list(v) {
			switch n {
			case most:
				told["above"]++
			case least:
				told["below"]++
			default:
				told["within"]++
			}
		}
	}
	for _, p := range poses(3, 1500) {
		for _, v := range []api.Vec{m.vec(size), m.vec(2 * edge), m.any(), at(m.some(), m.some(), m.some())} {
			out, e := pose.Out(p, v)
			if out != wantOut(p, v) || e != api.OK {
				t.Fatal("Out", p, v, out, e, wantOut(p, v))
			}
			in, e := pose.In(p, v)
			if in != wantIn(p, v) || e != api.OK {
				t.Fatal("In", p, v, in, e, wantIn(p, v))
			}
			kind(out)
			kind(in)
		}
	}
	if told["above"] < 200 || told["below"] < 200 || told["within"] < 5000 {
		t.Error("too few of a kind to tell", told)
	}
}

// P11.2

func points(l ...[3]int64) []api.Point {
	var all []api.Point
	for _, n := range l {
		all = append(all, api.Point{X: n[0], Y: n[1], Z: n[2]})
	}
	return all
}

// pointed holds what Points answers of a pose and a shape that may be against what it has to.
func pointed(t *testing.T, p api.Pose, s api.Shape, want []api.Point) {
	t.Helper()
	if l, e := pose.Points(p, s); !slices.Equal(l, want) || e != api.OK {
		t.Error("Points", p, s, l, e, want)
	}
}

func TestPointsExamples(t *testing.T) {
	const k = 1 << 16
	here := at(one, 2*one, 3*one)
	for _, c := range []struct {
		p    api.Pose
		s    api.Shape
		want []api.Point
	}{
		{posed(here, turn(0, 0, 0, one)), ball(one), points([3]int64{k, 2 * k, 3 * k})},
		{posed(here, straight), capsule(one, 2*one), points([3]int64{k, 2 * k, k}, [3]int64{k, 2 * k, 5 * k})},
		// A half about X; a quarter about it: Z goes to -Y.
		{posed(here, turn(0, one, 0, 0)), capsule(1, 2*one), points([3]int64{k, 2 * k, 5 * k}, [3]int64{k, 2 * k, k})},
		{posed(here, turn(one, one, 0, 0)), capsule(size, 2*one), points([3]int64{k, 4 * k, 3 * k}, [3]int64{k, 0, 3 * k})},
		{posed(at(0, 0, 0), turn(one, 0, 0, one)), box(0, one, 2*one, 3*one), points(
			[3]int64{2 * k, -k, -3 * k}, [3]int64{2 * k, k, -3 * k}, [3]int64{-2 * k, -k, -3 * k}, [3]int64{-2 * k, k, -3 * k},
			[3]int64{2 * k, -k, 3 * k}, [3]int64{2 * k, k, 3 * k}, [3]int64{-2 * k, -k, 3 * k}, [3]int64{-2 * k, k, 3 * k})},
		// In the order of the list, what is there twice twice.
		{posed(at(0, 0, one), straight), solid(5, at(one, 0, 0), at(0, 0, 0), at(0, one, 0), at(0, 0, 0), at(0, 0, -one)), points([3]int64{k, 0, k}, [3]int64{0, 0, k}, [3]int64{0, k, k}, [3]int64{0, 0, k}, [3]int64{0, 0, 0})},
		{posed(at(edge, edge, edge), straight), box(size, size, size, size), wantPoints(posed(at(edge, edge, edge), straight), box(0, size, size, size))},
	} {
		pointed(t, c.p, c.s, c.want)
	}
}

func TestPointsAreRoundedFromTheMiddleUp(t *testing.T) {
	for n, want := range map[api.Fix]int64{0: 0, step/2 - 1: 0, step / 2: 1, step: 1, -step / 2: 0, -step/2 - 1: -1, 3*step - step/2: 3, 3*step - step/2 - 1: 2} {
		pointed(t, posed(at(n, 0, 0), straight), ball(one), points([3]int64{want, 0, 0}))
		pointed(t, posed(at(0, n, 0), straight), ball(one), points([3]int64{0, want, 0}))
		pointed(t, posed(at(0, 0, n), straight), ball(one), points([3]int64{0, 0, want}))
	}
	// P and the core's point make a half together, though neither is one; what is brought in goes down first.
	pointed(t, posed(at(0, 0, step/2-5), straight), capsule(one, 5), points([3]int64{0, 0, 0}, [3]int64{0, 0, 1}))
	pointed(t, posed(at(0, 0, step/2-5), straight), capsule(one, 4), points([3]int64{0, 0, 0}, [3]int64{0, 0, 0}))
	pointed(t, posed(at(0, 0, 5-step/2), straight), capsule(one, 5), points([3]int64{0, 0, 0}, [3]int64{0, 0, 0}))
	pointed(t, posed(at(0, 0, 5-step/2), straight), capsule(one, 6), points([3]int64{0, 0, -1}, [3]int64{0, 0, 0}))
	// 4/5 and -4/5 of raw 5 along Y: the matrix has them rounded down, so that they are 3 and -5 at last.
	lying := turn(one, half, 0, 0)
	pointed(t, posed(at(0, step/2-3, 0), lying), capsule(one, 5), points([3]int64{0, 1, 0}, [3]int64{0, 0, 0}))
	pointed(t, posed(at(0, step/2-4, 0), lying), capsule(one, 5), points([3]int64{0, 1, 0}, [3]int64{0, 0, 0}))
	pointed(t, posed(at(0, step/2-5, 0), lying), capsule(one, 5), points([3]int64{0, 0, 0}, [3]int64{0, 0, 0}))
}

func TestPointsOfAll(t *testing.T) {
	m := making(4)
	told := map[int]int{}
	for _, s := range shapes(4, 200) {
		told[s.Kind]++
		for range 10 {
			p := m.pose()
			pointed(t, p, s, wantPoints(p, s))
		}
	}
	for _, p := range poses(5, 0) {
		for _, s := range plain() {
			pointed(t, p, s, wantPoints(p, s))
		}
	}
	for kind := api.Sphere; kind <= api.Solid; kind++ {
		if told[kind] < 30 {
			t.Error("too few of a kind to tell", told)
		}
	}
}

func TestPointsAreTheCoresRounded(t *testing.T) {
	m := making(6)
	for _, s := range shapes(6, 200) {
		p := m.pose()
		core, _ := shape.Core(s)
		l, _ := pose.Points(p, s)
		if len(l) != len(core) {
			t.Fatal("not one for each", p, s, l)
		}
		for i, v := range core {
			out, _ := pose.Out(p, v)
			if n, e := grid.Round(out); n != l[i] || e != api.OK {
				t.Error("not where the core's point is", p, s, i, l[i], n, e)
			}
		}
	}
}

func TestShapesThatMayNotBe(t *testing.T) {
	for _, p := range poses(7, 20) {
		for _, s := range arg() {
			if l, e := pose.Points(p, s); len(l) != 0 || e != api.ErrArg {
				t.Error("Points", p, s, l, e)
			}
		}
		for _, s := range flat() {
			if l, e := pose.Points(p, s); len(l) != 0 || e != api.ErrFlat {
				t.Error("Points of a flat one", p, s, l, e)
			}
		}
	}
}

// P11.3

// moved holds what Move answers of a pose that may be against what it has to.
func moved(t *testing.T, p api.Pose, v, w api.Vec, time api.Fix, want api.Pose, clamped bool) {
	t.Helper()
	if q, c, e := pose.Move(p, v, w, time); q != want || c != clamped || e != api.OK {
		t.Error("Move", p, v, w, time, q, c, e, want, clamped)
	}
}

func TestMovesOfThePlace(t *testing.T) {
	fast := at(api.MaxSpeed, -api.MaxSpeed, api.MaxSpeed)
	for _, c := range []struct {
		p, v    api.Vec
		t       api.Fix
		want    api.Vec
		clamped bool
	}{
		{at(1023*one, 0, 0), at(2*one, 0, 0), one, at(edge, 0, 0), true},
		{at(1022*one, 0, 0), at(2*one, 0, 0), one, at(edge, 0, 0), false},
		{at(one, 2*one, 3*one), at(one, 0, -one), half, at(3*half, 2*one, 5*half), false},
		// For no time, and at no speed; for a time below 0.
		{at(one, 2*one, 3*one), at(most, least, 1), 0, at(one, 2*one, 3*one), false},
		{at(edge, -edge, edge), fast, 0, at(edge, -edge, edge), false},
		{at(edge, -edge, edge), at(0, 0, 0), most, at(edge, -edge, edge), false},
		{at(one, 2*one, 3*one), at(one, 0, -one), -half, at(half, 2*one, 7*half), false},
		{at(-edge, edge, -edge), fast, -1, at(-edge, edge, -edge), true},
		{at(-edge, edge, -edge), fast, 1, at(256-edge, edge-256, 256-edge), false},
		// One number, two, three; at either end.
		{at(edge, 0, 0), at(1, 1, 1), one, at(edge, 1, 1), true},
		{at(0, edge, 0), at(1, 1, 1), one, at(1, edge, 1), true},
		{at(0, 0, edge), at(1, 1, 1), one, at(1, 1, edge), true},
		{at(-edge, 0, 0), at(-1, 1, 1), one, at(-edge, 1, 1), true},
		{at(0, -edge, 0), at(1, -1, 1), one, at(1, -edge, 1), true},
		{at(0, 0, -edge), at(1, 1, -1), one, at(1, 1, -edge), true},
		{at(edge, 0, -edge), at(one, one, -one), one, at(edge, one, -edge), true},
		{at(edge-1, 1-edge, edge), at(2, -2, 1), one, at(edge, -edge, edge), true},
		{at(edge-1, 1-edge, edge), at(1, -1, 0), one, at(edge, -edge, edge), false},
		{at(0, 0, 0), fast, 4 * one, at(edge, -edge, edge), false},
		{at(1, -1, 0), fast, 4 * one, at(edge, -edge, edge), true},
		// What no number holds.
		{at(-edge, edge, 0), at(most, least, most), most, at(edge, -edge, edge), true},
		{at(-edge, edge, 0), at(most, least, most), least, at(-edge, edge, -edge), true},
		{at(1, 2, 3), at(least, least, least), least, at(edge, edge, edge), true},
		// Rounded down, once: half a last bit more goes nowhere, half a one less goes down; and is clamped there.
		{at(7, 7, 7), at(one, -one, 0), 1, at(8, 6, 7), false},
		{at(7, 7, 7), at(1, -1, 3), half, at(7, 6, 8), false},
		{at(edge, -edge, edge), at(1, 1, 0), half, at(edge, -edge, edge), false},
		{at(edge, -edge, edge), at(0, -1, 0), half, at(edge, -edge, edge), true},
		{at(edge, -edge, edge), at(-1, 0, -1), 1, at(edge-1, -edge, edge-1), false},
	} {
		moved(t, posed(c.p, straight), c.v, api.Vec{}, c.t, posed(c.want, straight), c.clamped)
		if far := vec.Move(c.p, c.v, c.t); c.clamped == isPlace(far) {
			t.Error("clamped or not", c.p, c.v, c.t, far)
		}
	}
}

func TestMovesOfTheTurn(t *testing.T) {
	const root = 3037000499 // half of the root of 2, rounded down
	for _, c := range []struct {
		q      api.Quat
		w      api.Vec
		t      api.Fix
		want   api.Quat
		stayed bool
	}{
		{straight, at(0, 0, 2*one), one, turn(root, 0, 0, root), false},
		{straight, at(0, 0, -2*one), one, turn(root, 0, 0, -root-1), false},
		{straight, at(0, 0, 2*one), -one, turn(root, 0, 0, -root-1), false},
		{straight, at(0, 4*one, 0), half, turn(root, 0, root, 0), false},
		{turn(0, 0, one, 0), at(0, 0, 2*one), one, turn(0, -root-1, root, 0), false},
		// For no time, and with no turn: what is no unit is made one.
		{straight, at(most, least, 1), 0, straight, false},
		{turn(2*one, 0, 0, 0), at(0, 0, 0), one, straight, false},
		{turn(0, 0, -half, 0), at(one, 0, 0), 0, turn(0, 0, -one, 0), false},
		{turn(one, -one, one, -one), at(0, 0, 0), 0, turn(half, -half, half, -half), false},
		{turn(half, half, half, half), at(0, 0, 0), most, turn(half, half, half, half), false},
		// What is left has a square of just 4, and of a little more.
		{straight, at(2*one, 2*one, 2*one), one, turn(half, half, half, half), false},
		{straight, at(2*one, 2*one, 2*one+2), one, straight, true},
		{straight, at(2*one, 2*one, 2*one+1), one, turn(half, half, half, half), false},
		{straight, at(-2*one, -2*one, -2*one-1), one, straight, true},
		{straight, at(0, 4*one, 0), one, straight, true},
		// From the greatest rotations on, a little more is none; what is nothing when it is rounded is not.
		{turn(2*one, 0, 0, 0), at(1, 0, 0), one, turn(2*one, 0, 0, 0), true},
		{turn(2*one, 0, 0, 0), at(1, 0, 0), half, straight, false},
		{turn(2*one, 0, 0, 0), at(-1, 0, 0), half, turn(2*one, 0, 0, 0), true},
		{turn(one, one, -one, one), at(1, 1, 1), most, turn(one, one, -one, one), true},
		// From the least ones on, what is rounded down may be none.
		{turn(one/4, one/4, one/4, one/4), at(1, 0, 0), half, turn(one/4, one/4, one/4, one/4), true},
		{turn(one/4, one/4, one/4, one/4), at(4, 0, 0), one, turn(one/4, one/4, one/4, one/4), true},
		{turn(one/4, one/4, one/4, one/4), at(8, 0, 0), one, turn(half-3, half+1, half-3, half+1), false},
		{turn(half, 0, 0, 0), at(-1, 0, 0), half, turn(one-1, -2, 0, 0), false},
		// The greatest speeds.
		{straight, at(api.MaxSpeed, 0, 0), one / 256, turn(3841535533, 1920767766, 0, 0), false},
		{straight, at(api.MaxSpeed, api.MaxSpeed, -api.MaxSpeed), one / 60, straight, true},
		{straight, at(most, most, most), most, straight, true},
		{turn(half, half, half, half), at(least, most, least), least, turn(half, half, half, half), true},
		{turn(3*one/4, 0, one, 0), at(most, 0, 0), -one, turn(3*one/4, 0, one, 0), true},
	} {
		if c.stayed == isTurn(wantSpin(c.q, c.w, c.t)) {
			t.Error("stayed or not", c.q, c.w, c.t)
		}
		moved(t, posed(at(1, 2, 3), c.q), api.Vec{}, c.w, c.t, posed(at(1, 2, 3), c.want), c.stayed)
		// With a place that is clamped as well.
		moved(t, posed(at(1, edge, 3), c.q), at(0, c.t, 0), c.w, c.t, posed(at(1, min(edge, wantHeight(c.t)), 3), c.want), c.stayed || wantHeight(c.t) > edge)
	}
}

// wantHeight is how high what stood at MaxPlace is after a time at a speed of as much.
func wantHeight(t api.Fix) api.Fix { return vec.Move(at(0, edge, 0), at(0, t, 0), t).Y }

func TestMoveOfAll(t *testing.T) {
	m := making(8)
	told := map[string]int{}
	for _, p := range poses(8, 3000) {
		v, w, time := m.vec(api.MaxSpeed), m.vec(2*one), m.about(one)
		switch m.Intn(4) {
		case 0:
			v, time = m.vec(api.MaxSpeed), m.about(4*one)
		case 1:
			v, w, time = m.any(), m.any(), m.some()
		case 2:
			w, time = m.vec(api.MaxSpeed), one/60
		}
		q, clamped, stayed := wantMove(p, v, w, time)
		moved(t, p, v, w, time, q, clamped > 0 || stayed)
		told[[]string{"within", "one clamped", "two clamped", "three clamped"}[clamped]]++
		if stayed {
			told["stayed"]++
		}
		if !stayed && clamped == 0 {
			told["neither"]++
		}
		if !stayed && clamped > 0 {
			told["place alone"]++
		}
		if stayed && clamped == 0 {
			told["turn alone"]++
		}
	}
	for _, kind := range []string{"within", "one clamped", "two clamped", "three clamped", "stayed", "neither", "place alone", "turn alone"} {
		if told[kind] < 100 {
			t.Error("too few of a kind to tell", kind, told)
		}
	}
}

func TestMoveIsThatOfTheLayersBelow(t *testing.T) {
	m := making(9)
	for range 1000 {
		p, v, w, time := m.pose(), m.vec(one), m.vec(one), m.about(one)
		q, _, _ := pose.Move(p, v, w, time)
		if far := vec.Move(p.P, v, time); isPlace(far) && q.P != far {
			t.Error("another place", p, v, time, q, far)
		}
		if u, e := quat.Unit(quat.Spin(p.Q, w, time)); e == api.OK && q.Q != u {
			t.Error("another turn", p, w, time, q, u)
		}
	}
}

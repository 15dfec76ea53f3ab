package pose_test

import (
	"slices"
	"testing"

	"ninepin/api"
	"ninepin/grid"
	"ninepin/pose"
	"ninepin/quat"
	"ninepin/shape"
	"ninepin/vec"
)

// P11.4

func TestInAPoseThatIsNotTurned(t *testing.T) {
	m := making(10)
	l := slices.Concat(places(), []api.Vec{at(1, -1, 0)})
	for range 500 {
		l = append(l, m.vec(edge))
	}
	for _, p := range l {
		for _, v := range []api.Vec{{}, p, at(-p.X, -p.Y, -p.Z), m.vec(size), m.vec(edge), m.any(), at(most-edge, least+edge, m.some())} {
			if out, e := pose.Out(posed(p, quat.One()), v); out != vec.Add(v, p) || e != api.OK {
				t.Error("Out is not v and P", p, v, out, e)
			}
			if in, e := pose.In(posed(p, quat.One()), v); in != vec.Sub(v, p) || e != api.OK {
				t.Error("In is not v less P", p, v, in, e)
			}
		}
	}
}

func TestPointsOfAPoseInTheMiddle(t *testing.T) {
	for _, s := range shapes(11, 500) {
		l, e := pose.Points(posed(api.Vec{}, quat.One()), s)
		core, _ := shape.Core(s)
		if e != api.OK || len(l) != len(core) {
			t.Fatal("Points", s, l, e)
		}
		for i, v := range core {
			if p, _ := grid.Round(v); p != l[i] {
				t.Error("not the core's point, rounded", s, i, l[i], p)
			}
		}
	}
}

func TestBehindMoveAPoseMayBe(t *testing.T) {
	m := making(12)
	stayed, went := 0, 0
	for _, p := range poses(12, 300) {
		// On and on, at all speeds.
		for range 10 {
			v, w, time := m.vec(api.MaxSpeed), m.vec(api.MaxSpeed), one/60
			switch m.Intn(6) {
			case 0:
				v, w, time = m.any(), m.any(), m.some()
			case 1, 2, 3:
				// Towards the middle, slowly.
				v, w = vec.Scale(p.P, -half), m.vec(4*one)
			}
			q, clamped, e := pose.Move(p, v, w, time)
			if f := pose.Check(q); f != api.OK || e != api.OK {
				t.Fatal("Move to none", p, v, w, time, q, e, f)
			}
			if clamped {
				stayed++
			} else {
				went++
			}
			p = q
		}
	}
	if stayed < 500 || went < 500 {
		t.Error("too few of a kind to tell", stayed, went)
	}
}

// P11.5

func TestAllPointsMayBe(t *testing.T) {
	const far = 1152 << 16
	furthest := int64(0)
	lying := append(cornerwise(), turns()...)
	m := making(13)
	for range 200 {
		lying = append(lying, m.turn())
	}
	told := 0
	for _, p := range []api.Vec{at(edge, edge, edge), at(-edge, -edge, -edge), at(edge, -edge, 0), at(0, 0, -edge)} {
		for _, q := range lying {
			for _, s := range edges() {
				l, e := pose.Points(posed(p, q), s)
				if e != api.OK {
					t.Fatal("Points", p, q, s, e)
				}
				for _, n := range l {
					told++
					furthest = max(furthest, n.X, n.Y, n.Z, -n.X, -n.Y, -n.Z)
					if grid.Check(n) != api.OK {
						t.Fatal("a point that may not be", p, q, s, n)
					}
				}
			}
		}
	}
	// 1024, and 64 times the root of 3.
	if furthest > far || furthest < 1134<<16 || told < 10000 {
		t.Error("the furthest of all", furthest, told)
	}
}

// cornerwise are turns that bring a corner of a box with the same halves to lie on an axis: no point of a shape goes further there.
func cornerwise() []api.Quat {
	// Of (1 1 1) to Z: about (1 -1 0), by an angle whose cosine is 1 by the root of 3.
	q, _ := quat.Unit(turn(3814248073, 1396111691, -1396111691, 0))
	return []api.Quat{q, quat.Back(q), quat.Mul(turn(half, half, half, half), q), quat.Mul(turn(half, -half, -half, -half), q)}
}

// P11.6

func TestInOfOut(t *testing.T) {
	const off = one >> 22
	m := making(14)
	furthest, same := api.Fix(0), 0
	near := func(a, b api.Vec) bool {
		for i, n := range list(vec.Sub(a, b)) {
			furthest = max(furthest, n, -n)
			if n > off || n < -off {
				t.Log("off along", i, n)
				return false
			}
		}
		if a == b {
			same++
		}
		return true
	}
	var l []api.Pose
	for _, p := range poses(14, 3000) {
		q, e := quat.Unit(p.Q)
		if e != api.OK {
			t.Fatal("Unit", p.Q, e)
		}
		l = append(l, posed(p.P, q))
	}
	for _, p := range l {
		for _, v := range []api.Vec{m.vec(size), at(size, size, size), at(-size, size, -size), m.vec(one), m.vec(3)} {
			out, e := pose.Out(p, v)
			in, f := pose.In(p, out)
			if e != api.OK || f != api.OK || !near(in, v) {
				t.Fatal("In of Out", p, v, out, in, e, f)
			}
		}
	}
	if furthest < off/8 || same < 500 {
		t.Error("too little to tell", furthest, same)
	}
}

// The rules that hold everywhere.

func TestNothingHandedInIsChanged(t *testing.T) {
	m := making(15)
	for _, s := range slices.Concat(shapes(15, 300), arg(), flat()) {
		// The list stands in the middle of a longer one.
		whole := slices.Concat(make([]api.Vec, 3), s.L, make([]api.Vec, 5))
		s.L = whole[3 : 3+len(s.L)]
		before := slices.Clone(whole)
		for _, p := range []api.Pose{m.pose(), posed(at(edge+1, 0, 0), quat.One()), {}} {
			l, _ := pose.Points(p, s)
			for i := range l {
				l[i] = api.Point{X: -1, Y: -2, Z: -3}
			}
			_ = append(l, api.Point{X: -4})
		}
		if !slices.Equal(whole, before) {
			t.Fatal("a list was changed", s)
		}
	}
}

func TestAnswersAreNewMemory(t *testing.T) {
	m := making(16)
	for _, s := range shapes(16, 300) {
		p := m.pose()
		first, _ := pose.Points(p, s)
		other, _ := pose.Points(p, s)
		before := slices.Clone(other)
		for i := range first {
			first[i] = api.Point{X: -1, Y: -2, Z: -3}
		}
		if again, _ := pose.Points(p, s); !slices.Equal(other, before) || !slices.Equal(again, before) {
			t.Fatal("two answers share memory", p, s)
		}
	}
}

func TestNilAndEmptyListsAreTheSame(t *testing.T) {
	m := making(17)
	for _, s := range []api.Shape{ball(one), capsule(one, one), box(0, one, one, one), {Kind: api.Solid}} {
		p := m.pose()
		first, e := pose.Points(p, s)
		s.L = []api.Vec{}
		if other, f := pose.Points(p, s); !slices.Equal(first, other) || e != f {
			t.Error("Points of an empty list", p, s, first, other, e, f)
		}
	}
}

func TestAnyArgumentsEnd(t *testing.T) {
	m := making(18)
	told := map[api.Errno]int{}
	for range 5000 {
		s := api.Shape{Kind: m.Intn(8) - 2, R: m.some(), H: m.any()}
		for range m.Intn(20) {
			s.L = append(s.L, m.any())
		}
		if m.Intn(3) == 0 {
			s = m.shape()
		}
		p := posed(m.any(), turn(m.some(), m.some(), m.some(), m.some()))
		if m.Intn(2) == 0 {
			p = m.pose()
		}
		e := want(p)
		if f := pose.Check(p); f != e {
			t.Error("Check of any", p, f, e)
		}
		if v, f := pose.Out(p, m.any()); f != e || e != api.OK && v != (api.Vec{}) {
			t.Error("Out of any", p, v, f, e)
		}
		if v, f := pose.In(p, m.any()); f != e || e != api.OK && v != (api.Vec{}) {
			t.Error("In of any", p, v, f, e)
		}
		if q, clamped, f := pose.Move(p, m.any(), m.any(), m.some()); f != e || e != api.OK && (clamped || q != (api.Pose{})) {
			t.Error("Move of any", p, q, clamped, f, e)
		}
		if e == api.OK {
			e = shape.Check(s)
		}
		told[e]++
		if l, f := pose.Points(p, s); f != e || (len(l) == 0) != (e != api.OK) {
			t.Error("Points of any", p, s, l, f, e)
		}
	}
	if told[api.OK] < 300 || told[api.ErrBound] < 300 || told[api.ErrArg] < 300 {
		t.Error("too few of a kind to tell", told)
	}
}

func TestSameCallsHaveTheSameAnswers(t *testing.T) {
	ask := func() []any {
		m := making(19)
		var all []any
		for _, s := range slices.Concat(shapes(19, 200), arg(), flat()) {
			p := m.pose()
			l, e := pose.Points(p, s)
			for _, n := range l {
				all = append(all, n)
			}
			out, f := pose.Out(p, m.any())
			in, g := pose.In(p, m.any())
			q, clamped, h := pose.Move(p, m.any(), m.vec(one), m.about(one))
			all = append(all, len(l), e, out, f, in, g, q, clamped, h)
		}
		return all
	}
	if !slices.Equal(ask(), ask()) {
		t.Error("other answers the second time")
	}
}

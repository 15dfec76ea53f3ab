package mass_test

import (
	"math/big"
	"slices"
	"testing"

	"ninepin/api"
	"ninepin/mass"
	"ninepin/shape"
)

// P10.4

func TestNoMomentIsAboveTheTwoOthers(t *testing.T) {
	reached, equal, brought := 0, 0, 0
	for _, s := range shapes(10, 1000) {
		for _, m := range masses(10, 10) {
			of, e := mass.Of(s, m)
			if e != api.OK {
				t.Fatal("Of", s, m, e)
			}
			l := list(of.I)
			for i, n := range l {
				others := plus(raw(l[(i+1)%3]), raw(l[(i+2)%3]))
				switch over := new(big.Int).Sub(raw(n), others); {
				case over.Cmp(big.NewInt(1)) > 0:
					t.Fatal("a moment above the two others", s, m, of)
				case over.Sign() > 0:
					reached++
				case over.Sign() == 0:
					equal++
				case n == most:
					brought++
				}
				if n < 0 {
					t.Fatal("a moment below 0", s, m, of)
				}
			}
		}
	}
	if reached < 20 || equal < 20 || brought < 200 {
		t.Error("too few of a kind to tell", reached, equal, brought)
	}
}

func TestMomentsOfAGreaterMassAreNotLess(t *testing.T) {
	more, same := 0, 0
	for _, s := range shapes(11, 300) {
		l := masses(11, 20)
		for _, m := range masses(12, 10) {
			l = append(l, min(m+1, heavy), max(m-1, light))
		}
		slices.Sort(l)
		last := api.Mass{}
		for _, m := range l {
			of, e := mass.Of(s, m)
			if e != api.OK || of.M != m {
				t.Fatal("Of", s, m, of, e)
			}
			for i, n := range list(of.I) {
				switch before := list(last.I)[i]; {
				case n < before:
					t.Fatal("a lesser moment of a greater mass", s, last, of)
				case n > before:
					more++
				default:
					same++
				}
			}
			last = of
		}
	}
	if more < 5000 || same < 1000 {
		t.Error("too few of a kind to tell", more, same)
	}
}

func TestTimesBackIsNotAboveOne(t *testing.T) {
	exactly, under := 0, 0
	hold := func(n, back api.Fix) {
		p := times(raw(n), raw(back))
		switch {
		case p.Cmp(power(64)) > 0 || back < 0 || n <= 0 && back != 0:
			t.Fatal("by its back above 1", n, back)
		case p.Cmp(power(64)) == 0:
			exactly++
		case n > 0 && back < most && plus(p, raw(n)).Cmp(power(64)) <= 0:
			t.Fatal("a back that is not the greatest", n, back)
		case n > 0:
			under++
		}
	}
	m := making(13)
	held := []api.Mass{{M: 1, I: at(2, 3, 4)}, {M: most, I: at(most-1, least, 0)}, {M: one, I: at(one+1, one-1, -one)}, {M: light, I: at(heavy, half, 1<<62)}}
	for range 2000 {
		of, _ := mass.Of(m.shape(), m.mass())
		held = append(held, of, api.Mass{M: m.some(), I: m.vec()}, api.Mass{M: 1 << m.Intn(63), I: m.moments()})
	}
	for _, of := range held {
		back := mass.Back(of)
		hold(of.M, back.M)
		for i, n := range list(of.I) {
			hold(n, list(back.I)[i])
		}
	}
	if exactly < 1000 || under < 5000 {
		t.Error("too few of a kind to tell", exactly, under)
	}
}

func TestTurnedIsTheSameTurnedOver(t *testing.T) {
	m := making(14)
	for range 500 {
		i, q := m.vec(), m.turn()
		r, _ := mass.Turned(i, q)
		if r.R[0].Y != r.R[1].X || r.R[0].Z != r.R[2].X || r.R[1].Z != r.R[2].Y {
			t.Error("not the same by rows and by columns", i, q, r)
		}
		less := api.Quat{W: -q.W, X: -q.X, Y: -q.Y, Z: -q.Z}
		if other, e := mass.Turned(i, less); other != r || e != api.OK {
			t.Error("another one of 0 less the rotation", i, q, r, other, e)
		}
	}
}

// The rules that hold everywhere.

func TestNothingHandedInIsChanged(t *testing.T) {
	for _, s := range slices.Concat(shapes(15, 300), arg(), flat()) {
		// The list stands in the middle of a longer one.
		whole := slices.Concat(make([]api.Vec, 3), s.L, make([]api.Vec, 5))
		s.L = whole[3 : 3+len(s.L)]
		before := slices.Clone(whole)
		mass.Of(s, one)
		mass.Of(s, 0)
		if !slices.Equal(whole, before) {
			t.Fatal("a list was changed", s)
		}
	}
}

func TestNilAndEmptyListsAreTheSame(t *testing.T) {
	for _, s := range []api.Shape{ball(one), capsule(one, one), box(0, one, one, one), {Kind: api.Solid}} {
		first, e := mass.Of(s, one)
		s.L = []api.Vec{}
		if other, f := mass.Of(s, one); other != first || f != e {
			t.Error("Of an empty list", s, other, f)
		}
	}
}

func TestAnyArgumentsEnd(t *testing.T) {
	m := making(16)
	for range 3000 {
		s := api.Shape{Kind: m.Intn(8) - 2, R: m.some(), H: m.vec()}
		for range m.Intn(20) {
			s.L = append(s.L, m.vec())
		}
		k := m.some()
		e := shape.Check(s)
		if e == api.OK && (k < light || k > heavy) {
			e = api.ErrArg
		}
		if of, f := mass.Of(s, k); f != e || e != api.OK && of != (api.Mass{}) {
			t.Error("Of any", s, k, of, f, e)
		}
		mass.Back(api.Mass{M: m.some(), I: m.vec()})
		n := m.vec()
		if r, e := mass.Turned(m.vec(), api.Quat{W: m.some(), X: n.X, Y: n.Y, Z: n.Z}); e != api.OK && (e != api.ErrTurn || r != (api.Mat{})) {
			t.Error("Turned by any", r, e)
		}
	}
}

func TestSameCallsHaveTheSameAnswers(t *testing.T) {
	ask := func() []any {
		m := making(17)
		var all []any
		for _, s := range slices.Concat(shapes(17, 200), arg(), flat()) {
			of, e := mass.Of(s, m.mass())
			r, f := mass.Turned(of.I, m.turn())
			all = append(all, of, e, mass.Back(of), r, f)
		}
		return all
	}
	if !slices.Equal(ask(), ask()) {
		t.Error("other answers the second time")
	}
}

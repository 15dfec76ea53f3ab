package orient_test

import (
	"slices"
	"testing"

	"ninepin/api"
	"ninepin/orient"
)

func side(t *testing.T, a, b, c, p api.Point) int {
	t.Helper()
	s, e := orient.Side(a, b, c, p)
	if e != api.OK {
		t.Fatal("Side", a, b, c, p, e)
	}
	return s
}

func isInside(t *testing.T, l []api.Point, p api.Point) bool {
	t.Helper()
	in, e := orient.Inside(l, p)
	if e != api.OK {
		t.Fatal("Inside", l, p, e)
	}
	return in
}

// P7.5

func TestSideByOrder(t *testing.T) {
	m := making(31)
	for range 2000 {
		l := m.some(4)
		a, b, c, p := l[0], l[1], l[2], l[3]
		s := side(t, a, b, c, p)
		if side(t, b, a, c, p) != -s || side(t, a, c, b, p) != -s || side(t, c, b, a, p) != -s {
			t.Fatal("Side with two exchanged", l)
		}
		if side(t, b, c, a, p) != s || side(t, c, a, b, p) != s {
			t.Fatal("Side by which comes first", l)
		}
	}
}

// room is a difference by which all the points may be moved, as far as it goes.
func (m maker) room(l []api.Point) api.Point {
	one := func(number func(p api.Point) int64) int64 {
		low, high := number(l[0]), number(l[0])
		for _, p := range l {
			low, high = min(low, number(p)), max(high, number(p))
		}
		if m.Intn(2) == 0 {
			return end - high
		}
		return -end - low
	}
	return at(one(func(p api.Point) int64 { return p.X }), one(func(p api.Point) int64 { return p.Y }), one(func(p api.Point) int64 { return p.Z }))
}

// answers are all that the calls tell of a list, and of a point by it; places that are not taken are 0.
type answers struct {
	rank, taken, side int
	places            [4]int
	inside            bool
	volume            api.Wide
	e                 [5]api.Errno
}

func all(l []api.Point, p api.Point) answers {
	var a answers
	var places []int
	a.rank, a.e[0] = orient.Rank(l)
	places, a.e[1] = orient.Spread(l)
	a.taken = copy(a.places[:], places)
	a.inside, a.e[2] = orient.Inside(l, p)
	a.volume, a.e[3] = orient.Volume(l)
	if len(l) >= 3 {
		a.side, a.e[4] = orient.Side(l[0], l[1], l[2], p)
	}
	return a
}

func TestMovingAllAlikeChangesNothing(t *testing.T) {
	m, told := making(32), 0
	for i := range 3000 {
		l := m.some(1 + i%6)
		for _, p := range m.about(l) {
			by := m.room(append(slices.Clone(l), p))
			var other []api.Point
			for _, q := range l {
				other = append(other, moved(q, by))
			}
			if !mayBe(append(slices.Clone(other), moved(p, by))...) {
				t.Fatal("the test moves too far", l, p, by)
			}
			if all(l, p) != all(other, moved(p, by)) {
				t.Fatal("moved", l, p, by)
			}
			if by != (api.Point{}) {
				told++
			}
		}
	}
	if told < 10000 {
		t.Error("too few are moved to tell", told)
	}
}

// P7.6

func TestSpreadHasTheRank(t *testing.T) {
	m := making(33)
	for i := range 2000 {
		l := m.some(i % 12)
		n, e := orient.Rank(l)
		places, f := orient.Spread(l)
		if e != api.OK || f != api.OK || len(places) != n+1 {
			t.Fatal("Spread", l, n, places, e, f)
		}
		var taken []api.Point
		for i, k := range places {
			if k < 0 || k >= len(l) || i > 0 && k <= places[i-1] {
				t.Fatal("Spread is not rising", l, places)
			}
			taken = append(taken, l[k])
		}
		if again, e := orient.Rank(taken); again != n || e != api.OK {
			t.Fatal("Rank of the spread", l, places, again)
		}
		if len(l) > 0 && places[0] != 0 {
			t.Fatal("Spread without the first", l, places)
		}
		// Up to each place the rank is that of what was taken.
		for k := range l {
			part, _ := orient.Rank(l[:k+1])
			if part != len(slices.DeleteFunc(slices.Clone(places), func(at int) bool { return at > k }))-1 {
				t.Fatal("Rank of the first ones", l, k, part)
			}
		}
	}
}

// P7.7

func TestPointsAndFacesAreInside(t *testing.T) {
	m, told := making(34), 0
	for i := range 3000 {
		l := m.some(1 + i%4)
		if n, _ := orient.Rank(l); n != len(l)-1 {
			continue
		}
		for _, p := range l {
			if !isInside(t, l, p) {
				t.Fatal("a point of a simplex", l, p)
			}
		}
		if len(l) == 1 {
			continue
		}
		for k := range l {
			face := slices.Delete(slices.Clone(l), k, k+1)
			for _, p := range m.about(face) {
				if isInside(t, face, p) {
					told++
					if !isInside(t, l, p) {
						t.Fatal("inside of a face", l, k, p)
					}
				}
			}
		}
	}
	if told < 10000 {
		t.Error("too few are inside to tell", told)
	}
}

func TestInsideOfFourBySides(t *testing.T) {
	m := making(35)
	in, out := 0, 0
	for range 2000 {
		l := m.some(4)
		if n, _ := orient.Rank(l); n != 3 {
			continue
		}
		for _, p := range m.about(l) {
			want := true
			for k := range l {
				face := slices.Delete(slices.Clone(l), k, k+1)
				if side(t, face[0], face[1], face[2], p)*side(t, face[0], face[1], face[2], l[k]) < 0 {
					want = false
				}
			}
			if isInside(t, l, p) != want {
				t.Fatal("Inside by sides", l, p)
			}
			if want {
				in++
			} else {
				out++
			}
		}
	}
	if in < 1000 || out < 1000 {
		t.Error("too few of a kind to tell", in, out)
	}
}

func TestInsideHangsOnNoOrder(t *testing.T) {
	m := making(36)
	for i := range 2000 {
		l := m.some(2 + i%3)
		if n, _ := orient.Rank(l); n != len(l)-1 {
			continue
		}
		for _, p := range m.about(l) {
			other := slices.Clone(l)
			m.Shuffle(len(other), func(i, k int) { other[i], other[k] = other[k], other[i] })
			if isInside(t, l, p) != isInside(t, other, p) {
				t.Fatal("Inside by order", l, other, p)
			}
		}
	}
}

// The rules that hold everywhere.

func TestWhatIsHandedInStays(t *testing.T) {
	m := making(37)
	for i := range 500 {
		n := 1 + i%6
		l := m.some(n + 3)
		before := slices.Clone(l)
		all(l[:n], l[n])
		if !slices.Equal(l, before) {
			t.Fatal("changed", before, l)
		}
	}
}

func TestSpreadIsNewMemory(t *testing.T) {
	l := []api.Point{{}, {X: 1}, {Y: 1}, {Z: 1}}
	first, _ := orient.Spread(l)
	for i := range first {
		first[i] = -7
	}
	if again, e := orient.Spread(l); !slices.Equal(again, []int{0, 1, 2, 3}) || e != api.OK {
		t.Error("Spread told again", again, e)
	}
}

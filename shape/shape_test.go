package shape_test

import (
	"math"
	"slices"
	"testing"

	"ninepin/api"
	"ninepin/shape"
)

// asked holds what Check, Core, Half and Reach answer against what they have to.
func asked(t *testing.T, s api.Shape, e api.Errno) {
	t.Helper()
	if got := shape.Check(s); got != e {
		t.Error("Check", s, got, e)
	}
	var core []api.Vec
	var half api.Vec
	var reach api.Fix
	if e == api.OK {
		core, half, reach = wantCore(s), wantHalf(s), wantReach(s)
	}
	if got, f := shape.Core(s); !slices.Equal(got, core) || f != e {
		t.Error("Core", s, got, f)
	}
	if got, f := shape.Half(s); got != half || f != e {
		t.Error("Half", s, got, f)
	}
	if got, f := shape.Reach(s); got != reach || f != e {
		t.Error("Reach", s, got, f)
	}
}

// within is OK of a number from low to high, else ErrArg.
func within(n, low, high api.Fix) api.Errno {
	if n < low || n > high {
		return api.ErrArg
	}
	return api.OK
}

// P9.1

func TestPlainShapesMayBe(t *testing.T) {
	for _, s := range plain() {
		asked(t, s, api.OK)
	}
}

func TestKinds(t *testing.T) {
	for _, s := range plain() {
		for _, kind := range []int{0, 5, 6, 8, 100, -1, -2, -3, -4, -5, math.MaxInt, math.MinInt, 1 << 8, 1<<8 + 1, 1<<32 + 1, 1<<32 + 2, 1<<32 + 3, 1<<32 + 4} {
			other := s
			other.Kind = kind
			asked(t, other, api.ErrArg)
		}
		// What is another kind's may not be of this one.
		for kind := api.Sphere; kind <= api.Solid; kind++ {
			other := s
			other.Kind = kind
			if kind != s.Kind {
				asked(t, other, api.ErrArg)
			}
		}
	}
	for kind := -2; kind <= 7; kind++ {
		asked(t, api.Shape{Kind: kind}, api.ErrArg)
		asked(t, api.Shape{Kind: kind, L: []api.Vec{}}, api.ErrArg)
	}
}

func TestRadius(t *testing.T) {
	for i, s := range plain() {
		low := []api.Fix{1, 1, 0, 0}[i]
		for _, n := range odd() {
			s.R = n
			asked(t, s, within(n, low, most))
		}
		for n, e := range map[api.Fix]api.Errno{1: api.OK, most: api.OK, most + 1: api.ErrArg, -1: api.ErrArg, -most: api.ErrArg, -most - 1: api.ErrArg, api.MinFix: api.ErrArg} {
			s.R = n
			asked(t, s, e)
		}
	}
	asked(t, ball(0), api.ErrArg)
	asked(t, capsule(0, one), api.ErrArg)
	asked(t, box(0, one, one, one), api.OK)
	asked(t, solid(0, corner(one)...), api.OK)
}

func TestHalvesOfSpheresAndSolids(t *testing.T) {
	for _, s := range []api.Shape{plain()[0], plain()[3]} {
		for axis := range 3 {
			for _, n := range odd() {
				other := s
				*number(&other.H, axis) = n
				asked(t, other, within(n, 0, 0))
			}
		}
	}
}

func TestHalvesOfCapsules(t *testing.T) {
	for _, n := range odd() {
		asked(t, api.Shape{Kind: api.Capsule, R: one, H: at(n, 0, one)}, within(n, 0, 0))
		asked(t, api.Shape{Kind: api.Capsule, R: one, H: at(0, n, one)}, within(n, 0, 0))
		asked(t, api.Shape{Kind: api.Capsule, R: one, H: at(0, 0, n)}, within(n, 1, most))
		asked(t, api.Shape{Kind: api.Capsule, R: one, H: at(n, 0, 0)}, api.ErrArg)
	}
}

func TestHalvesOfBoxes(t *testing.T) {
	for axis := range 3 {
		for _, n := range odd() {
			s := box(one, one, one, one)
			*number(&s.H, axis) = n
			asked(t, s, within(n, step, most))
		}
		for n, e := range map[api.Fix]api.Errno{1 << 16: api.OK, 1<<16 - 1: api.ErrArg, 0: api.ErrArg, -1 << 16: api.ErrArg, most: api.OK, most + 1: api.ErrArg, -most: api.ErrArg, api.MinFix: api.ErrArg} {
			s := box(0, 2*one, 2*one, 2*one)
			*number(&s.H, axis) = n
			asked(t, s, e)
		}
	}
	asked(t, box(0, step, step, step), api.OK)
	asked(t, box(most, most, most, most), api.OK)
}

func TestListsOfThoseThatHaveNone(t *testing.T) {
	for _, s := range plain()[:3] {
		for _, l := range [][]api.Vec{nil, {}, corner(one)[:0]} {
			s.L = l
			asked(t, s, api.OK)
		}
		for _, l := range [][]api.Vec{{{}}, {s.H}, corner(one), many(16), many(17), wantCore(s)} {
			s.L = l
			asked(t, s, api.ErrArg)
		}
	}
}

func TestListsOfSolids(t *testing.T) {
	for n := range 40 {
		l := many(n)
		asked(t, solid(0, l...), within(api.Fix(n), 4, 16))
		// As many points that are the same are too few or too many all the same.
		asked(t, solid(one, slices.Repeat(l[:min(n, 1)], n)...), map[bool]api.Errno{true: api.ErrFlat, false: api.ErrArg}[n >= 4 && n <= 16])
	}
	for _, l := range [][]api.Vec{nil, {}, corner(one)[:0], many(300), slices.Repeat(corner(one), 1000)} {
		asked(t, solid(0, l...), api.ErrArg)
	}
}

func TestNumbersOfSolids(t *testing.T) {
	for place := range 16 {
		for axis := range 3 {
			for _, n := range odd() {
				l := many(16)
				*number(&l[place], axis) = n
				asked(t, solid(0, l...), within(n, -most, most))
			}
		}
	}
}

func TestFlatSolids(t *testing.T) {
	for _, l := range [][]api.Vec{
		{{}, {}, {}, {}}, {at(5*one, 1, -3), at(5*one, 1, -3), at(5*one, 1, -3), at(5*one, 1, -3)}, slices.Repeat([]api.Vec{at(one, one, one)}, 16),
		{{}, {X: one}, {X: 2 * one}, {X: 3 * one}}, {{}, at(one, 2*one, 3*one), at(-one, -2*one, -3*one), at(10*one, 20*one, 30*one)}, {{}, {}, {}, {Y: one}},
		{{}, {X: one}, {Y: one}, {X: one, Y: one}}, {{}, {X: one}, {Y: one}, {Y: one}}, {{}, {X: one}, {}, {Y: one}}, {at(0, 0, 7), at(one, 0, 7), at(0, one, 7), at(5*one, -one, 7)},
		{{X: one}, {Y: one}, {Z: one}, at(one, one, -one)}, {at(-most, -most, -most), at(most, most, most), at(-most, most, 0), at(most, -most, 0)},
		slices.Repeat([]api.Vec{{}, {X: one}, {Z: one}}, 5),
	} {
		asked(t, solid(0, l...), api.ErrFlat)
		asked(t, solid(most, l...), api.ErrFlat)
		slices.Reverse(l)
		asked(t, solid(1, l...), api.ErrFlat)
	}
}

func TestSolidsFlatOnTheGrid(t *testing.T) {
	off := func(n api.Fix) api.Shape { return solid(0, api.Vec{}, api.Vec{X: one}, api.Vec{Y: one}, api.Vec{Z: n}) }
	for n, e := range map[api.Fix]api.Errno{
		0: api.ErrFlat, 1: api.ErrFlat, step/2 - 1: api.ErrFlat, step / 2: api.OK, step: api.OK,
		-1: api.ErrFlat, -step / 2: api.ErrFlat, -step/2 - 1: api.OK, -step: api.OK,
	} {
		asked(t, off(n), e)
	}
	// What spans a body by itself, and has but one place on the grid, or two, or three.
	asked(t, solid(0, corner(step/2-1)...), api.ErrFlat)
	asked(t, solid(0, corner(step/2)...), api.OK)
	asked(t, solid(0, at(0, 0, 0), at(step/2, 0, 0), at(0, 1, 0), at(0, 0, 1)), api.ErrFlat)
	asked(t, solid(0, at(0, 0, 0), at(step, 0, 0), at(0, step, 0), at(1, 1, 1)), api.ErrFlat)
	asked(t, solid(0, at(most, most, most), at(most-1, most, most), at(most, most-1, most), at(most, most, most-1)), api.ErrFlat)
	// In one plane by themselves, but not on the grid.
	asked(t, solid(0, at(0, 0, 0), at(2*step, 0, step), at(0, step, 0), at(step, 0, step/2)), api.OK)
	// The thinnest one, as far off as may be.
	asked(t, solid(0, at(-most, -most, -most), at(most, most, most), at(-most, most, 0), at(most, -most, step)), api.OK)
	asked(t, solid(0, at(-most, -most, -most), at(most, most, most), at(-most, most, 0), at(most, -most, step/2-1)), api.ErrFlat)
}

func TestPointsThatAreTheSame(t *testing.T) {
	for place := range 4 {
		l := slices.Concat(corner(one), slices.Repeat([]api.Vec{corner(one)[place]}, 12))
		asked(t, solid(0, l...), api.OK)
		slices.Reverse(l)
		asked(t, solid(one, l...), api.OK)
		asked(t, solid(one, append(l, l[0])...), api.ErrArg)
	}
	asked(t, solid(0, slices.Repeat(corner(one), 4)...), api.OK)
	asked(t, solid(0, slices.Repeat(corner(one)[:3], 5)...), api.ErrFlat)
}

func TestWhatMayNotBeGoesAheadOfFlat(t *testing.T) {
	level := []api.Vec{{}, {X: one}, {Y: one}, {X: one, Y: one}}
	asked(t, solid(0, level...), api.ErrFlat)
	asked(t, solid(-1, level...), api.ErrArg)
	asked(t, solid(most+1, level...), api.ErrArg)
	asked(t, solid(0, level[:3]...), api.ErrArg)
	asked(t, solid(0, slices.Repeat(level, 5)...), api.ErrArg)
	asked(t, api.Shape{Kind: api.Solid, H: at(0, 0, 1), L: level}, api.ErrArg)
	for place := range level {
		for axis := range 3 {
			for _, n := range []api.Fix{most + 1, -most - 1, api.MaxFix, api.MinFix} {
				l := slices.Clone(level)
				*number(&l[place], axis) = n
				asked(t, solid(0, l...), api.ErrArg)
			}
		}
	}
}

func TestCores(t *testing.T) {
	for _, c := range []struct {
		s    api.Shape
		want []api.Vec
	}{
		{ball(1), []api.Vec{{}}}, {ball(most), []api.Vec{{}}},
		{capsule(1, 1), []api.Vec{{Z: -1}, {Z: 1}}}, {capsule(one, most), []api.Vec{{Z: -most}, {Z: most}}},
		{box(one, one, 2*one, 3*one), []api.Vec{
			at(-one, -2*one, -3*one), at(one, -2*one, -3*one), at(-one, 2*one, -3*one), at(one, 2*one, -3*one),
			at(-one, -2*one, 3*one), at(one, -2*one, 3*one), at(-one, 2*one, 3*one), at(one, 2*one, 3*one),
		}},
		{solid(0, corner(7*one)...), []api.Vec{{}, {X: 7 * one}, {Y: 7 * one}, {Z: 7 * one}}},
		{solid(1, at(3, 1, one), at(-most, 2, 0), at(0, most, 1), at(2, -one, 5)), []api.Vec{at(3, 1, one), at(-most, 2, 0), at(0, most, 1), at(2, -one, 5)}},
		{solid(0, slices.Repeat(corner(one), 4)...), slices.Repeat(corner(one), 4)},
	} {
		if got, e := shape.Core(c.s); !slices.Equal(got, c.want) || e != api.OK {
			t.Error("Core", c.s, got, e)
		}
	}
}

func TestSomeShapes(t *testing.T) {
	told := map[[2]int]int{}
	for _, s := range shapes(91, 3000) {
		e := want(s)
		asked(t, s, e)
		told[[2]int{s.Kind, int(e)}]++
	}
	for kind := api.Sphere; kind <= api.Solid; kind++ {
		if told[[2]int{kind, int(api.OK)}] < 500 || told[[2]int{kind, int(api.ErrArg)}] < 500 {
			t.Error("too few of a kind to tell", told)
		}
	}
	if told[[2]int{api.Solid, int(api.ErrFlat)}] < 500 {
		t.Error("too few are flat to tell", told)
	}
}

// P9.2

func TestHalfAndReach(t *testing.T) {
	for _, c := range []struct {
		s     api.Shape
		half  api.Vec
		reach api.Fix
	}{
		{ball(one), at(one, one, one), one}, {ball(1), at(1, 1, 1), 1}, {ball(most), at(most, most, most), most},
		{capsule(one, 2*one), at(one, one, 3*one), 3 * one}, {capsule(1, 1), at(1, 1, 2), 2}, {capsule(most, most), at(most, most, 2*most), 2 * most},
		{box(0, one, 2*one, 2*one), at(one, 2*one, 2*one), 3 * one}, {box(one, one, 2*one, 2*one), at(2*one, 3*one, 3*one), 4 * one},
		{box(1, 2*one, 3*one, 6*one), at(2*one+1, 3*one+1, 6*one+1), 7*one + 1},
		// 2^16 times the root of 3, and 64 times it: rounded up.
		{box(0, step, step, step), at(step, step, step), 113512}, {box(0, most, most, most), at(most, most, most), 476102500706},
		{box(most, most, most, most), at(2*most, 2*most, 2*most), most + 476102500706},
		{solid(0, corner(one)...), at(one, one, one), one},
		{solid(2, at(-3*one, 0, 0), at(one, -4*one, 0), at(0, 0, -5*one), at(2*one, 3*one, 4*one)), at(3*one+2, 4*one+2, 5*one+2), 23129106731 + 2},
		{solid(0, at(-most, -most, -most), at(most, most, most), at(-most, most, 0), at(most, -most, step)), at(most, most, most), 476102500706},
		// None of its points is the middle, or about it.
		{solid(0, at(3*one, 4*one, 0), at(4*one, 4*one, 0), at(3*one, 5*one, 0), at(3*one, 4*one, one)), at(4*one, 5*one, one), 25043747693},
	} {
		if got, e := shape.Half(c.s); got != c.half || e != api.OK {
			t.Error("Half", c.s, got, e)
		}
		if got, e := shape.Reach(c.s); got != c.reach || e != api.OK {
			t.Error("Reach", c.s, got, e)
		}
	}
}

// P9.3

func TestSame(t *testing.T) {
	long := many(300)
	for _, s := range slices.Concat(plain(), []api.Shape{{}, {Kind: -7, R: -1, H: at(1, 2, api.MinFix), L: many(5)}, solid(0, long...)}) {
		if !shape.Same(s, s) {
			t.Error("Same of a shape and itself", s)
		}
		other := func(change func(o *api.Shape)) {
			t.Helper()
			o := s
			o.L = slices.Clone(s.L)
			if !shape.Same(s, o) || !shape.Same(o, s) {
				t.Error("Same of two that are the same", s, o)
			}
			change(&o)
			if shape.Same(s, o) || shape.Same(o, s) {
				t.Error("Same of two that are not", s, o)
			}
		}
		other(func(o *api.Shape) { o.Kind++ })
		other(func(o *api.Shape) { o.Kind += 1 << 32 })
		other(func(o *api.Shape) { o.R++ })
		other(func(o *api.Shape) { o.R += -1 << 63 })
		other(func(o *api.Shape) { o.L = append(o.L, api.Vec{}) })
		for axis := range 3 {
			other(func(o *api.Shape) { *number(&o.H, axis)++ })
			for place := range s.L {
				other(func(o *api.Shape) { *number(&o.L[place], axis)-- })
			}
		}
		if len(s.L) > 0 {
			other(func(o *api.Shape) { o.L = o.L[1:] })
			other(func(o *api.Shape) { o.L = o.L[:len(o.L)-1] })
			other(func(o *api.Shape) { o.L = nil })
			other(func(o *api.Shape) { o.L = o.L[:0] })
			other(func(o *api.Shape) { slices.Reverse(o.L) })
		}
	}
}

func TestSameOfEmptyLists(t *testing.T) {
	for _, s := range []api.Shape{ball(one), capsule(one, one), box(0, one, one, one), {}, {Kind: api.Solid}, {Kind: 9, R: -5}} {
		empty, spare := s, s
		empty.L, spare.L = []api.Vec{}, many(4)[:0]
		l := []api.Shape{s, empty, spare}
		for _, a := range l {
			for _, b := range l {
				if !shape.Same(a, b) {
					t.Error("Same of nil and empty lists", a, b)
				}
			}
		}
	}
}

func TestSameOfSome(t *testing.T) {
	l, same := shapes(92, 100), 0
	for _, s := range shapes(92, 100) {
		for _, o := range l {
			want := s.Kind == o.Kind && slices.Equal(numbers(s), numbers(o))
			if got := shape.Same(s, o); got != want {
				t.Fatal("Same", s, o, got)
			}
			if want {
				same++
			}
		}
	}
	if same < len(l) {
		t.Error("too few are the same to tell", same)
	}
}

func TestCopy(t *testing.T) {
	l := slices.Concat(plain(), shapes(93, 300), []api.Shape{{}, {Kind: api.Box, L: []api.Vec{}}, {Kind: -1, R: api.MinFix, H: at(1, 2, 3), L: many(300)}, solid(0, many(9)[:4]...)})
	for _, s := range l {
		c := shape.Copy(s)
		if !shape.Same(c, s) || c.Kind != s.Kind || c.R != s.R || c.H != s.H || !slices.Equal(c.L, s.L) || (c.L == nil) != (s.L == nil) {
			t.Fatal("Copy", s, c)
		}
		before := slices.Clone(s.L)
		for i := range c.L {
			c.L[i].X++
		}
		_ = append(c.L, at(one, one, one))
		if !slices.Equal(s.L, before) {
			t.Fatal("the copy writes to the first one", s)
		}
		c = shape.Copy(s)
		for i := range s.L {
			s.L[i].Z--
		}
		if !slices.Equal(c.L, before) {
			t.Fatal("the first one writes to the copy", s, c)
		}
	}
}

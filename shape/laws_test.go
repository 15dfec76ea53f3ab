package shape_test

import (
	"math/big"
	"slices"
	"testing"

	"ninepin/api"
	"ninepin/grid"
	"ninepin/shape"
)

// goods are shapes that may be: those at the edges, and n others.
func goods(seed int64, n int) []api.Shape {
	m := making(seed)
	l := append(plain(), ball(1), ball(most), capsule(1, 1), capsule(most, most), box(0, step, step, step), box(most, most, most, most), solid(0, many(16)...))
	for range n {
		l = append(l, m.good())
	}
	return l
}

// P9.4

func TestNothingIsBeyondItsHalf(t *testing.T) {
	for _, s := range goods(94, 3000) {
		core, _ := shape.Core(s)
		half, e := shape.Half(s)
		if e != api.OK {
			t.Fatal("Half", s, e)
		}
		for _, p := range core {
			for i, n := range list(p) {
				if h := list(half)[i]; n > h || -n > h || n > h-s.R || -n > h-s.R {
					t.Fatal("a number above the half", s, p, half)
				}
			}
		}
		// Nor is there a lesser half.
		for i, h := range list(half) {
			reaches := func(p api.Vec) bool { n := list(p)[i]; return max(n, -n) == h-s.R }
			if !slices.ContainsFunc(core, reaches) {
				t.Fatal("a half that no point reaches", s, half)
			}
		}
	}
}

func TestNoLengthIsBeyondTheReach(t *testing.T) {
	exact, over := 0, 0
	for _, s := range goods(95, 3000) {
		core, _ := shape.Core(s)
		reach, e := shape.Reach(s)
		if e != api.OK || reach < s.R {
			t.Fatal("Reach", s, reach, e)
		}
		far := new(big.Int)
		for _, p := range core {
			if far.Cmp(square(p)) < 0 {
				far = square(p)
			}
		}
		rest := new(big.Int).Sub(raw(reach), raw(s.R))
		switch {
		case squared(rest).Cmp(far) < 0:
			t.Fatal("a length above the reach less R", s, reach)
		case squared(rest).Cmp(far) == 0:
			exact++
		case squared(rest.Sub(rest, big.NewInt(1))).Cmp(far) >= 0:
			t.Fatal("a reach that is not the least", s, reach)
		default:
			over++
		}
	}
	if exact < 500 || over < 500 {
		t.Error("too few of a kind to tell", exact, over)
	}
}

func TestCoresTurnedOver(t *testing.T) {
	told := map[int]int{}
	for _, s := range goods(96, 2000) {
		if s.Kind == api.Solid {
			continue
		}
		told[s.Kind]++
		core, e := shape.Core(s)
		if e != api.OK {
			t.Fatal("Core", s, e)
		}
		var over []api.Vec
		for _, p := range core {
			over = append(over, at(-p.X, -p.Y, -p.Z))
		}
		slices.Reverse(over)
		if !slices.Equal(core, over) {
			t.Fatal("a core that is another one, turned over", s, core)
		}
	}
	if told[api.Sphere] < 200 || told[api.Capsule] < 200 || told[api.Box] < 200 {
		t.Error("too few of a kind to tell", told)
	}
}

func TestPointsOfBoxesStayApartOnTheGrid(t *testing.T) {
	for _, s := range goods(97, 1000) {
		if s.Kind != api.Box {
			continue
		}
		core, _ := shape.Core(s)
		seen := map[api.Point]int{}
		for i, v := range core {
			p, e := grid.Round(v)
			if k, there := seen[p]; there || e != api.OK {
				t.Fatal("two corners in one place", s, i, k, e)
			}
			seen[p] = i
		}
	}
}

// The rules that hold everywhere.

func TestNothingHandedInIsChanged(t *testing.T) {
	for _, s := range slices.Concat(goods(98, 500), shapes(98, 500)) {
		// The list stands in the middle of a longer one.
		whole := slices.Concat(many(3), s.L, many(5))
		n := len(s.L)
		s.L = whole[3 : 3+n]
		before := slices.Clone(whole)
		shape.Check(s)
		core, _ := shape.Core(s)
		shape.Half(s)
		shape.Reach(s)
		shape.Same(s, s)
		c := shape.Copy(s)
		for _, l := range [][]api.Vec{core, c.L} {
			for i := range l {
				l[i] = at(-1, -2, -3)
			}
			_ = append(l, at(-4, -5, -6))
		}
		if !slices.Equal(whole, before) {
			t.Fatal("a list was changed", s)
		}
	}
}

func TestAnswersAreNewMemory(t *testing.T) {
	for _, s := range goods(99, 500) {
		first, _ := shape.Core(s)
		other, _ := shape.Core(s)
		before := slices.Clone(other)
		for i := range first {
			first[i] = at(-1, -2, -3)
		}
		if again, _ := shape.Core(s); !slices.Equal(other, before) || !slices.Equal(again, before) {
			t.Fatal("two answers share memory", s)
		}
		one, two := shape.Copy(s), shape.Copy(s)
		for i := range one.L {
			one.L[i] = at(-1, -2, -3)
		}
		if !shape.Same(two, s) {
			t.Fatal("two copies share memory", s)
		}
	}
}

func TestSameCallsHaveTheSameAnswers(t *testing.T) {
	l := slices.Concat(goods(100, 300), shapes(100, 300))
	ask := func() []any {
		var all []any
		for _, s := range l {
			core, e := shape.Core(s)
			half, f := shape.Half(s)
			reach, g := shape.Reach(s)
			all = append(all, shape.Check(s), len(core), e, half, f, reach, g)
			for _, p := range core {
				all = append(all, p)
			}
		}
		return all
	}
	if !slices.Equal(ask(), ask()) {
		t.Error("other answers the second time")
	}
}

func TestACopyIsAskedAlike(t *testing.T) {
	for _, s := range slices.Concat(goods(101, 300), shapes(101, 300)) {
		asked(t, shape.Copy(s), shape.Check(s))
	}
}

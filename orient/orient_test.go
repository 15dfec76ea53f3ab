package orient_test

import (
	"math/big"
	"slices"
	"testing"

	"ninepin/api"
	"ninepin/orient"
	"ninepin/wide"
)

// P7.1

func TestSideExamples(t *testing.T) {
	o, x, y := api.Point{}, at(1, 0, 0), at(0, 1, 0)
	for _, c := range []struct {
		a, b, c, p api.Point
		want       int
	}{
		{o, x, y, at(5, 5, 1), 1}, {o, x, y, at(5, 5, -1), -1}, {o, x, y, at(5, 5, 0), 0},
		{o, y, x, at(5, 5, 1), -1}, {o, y, x, at(5, 5, -1), 1},
		{at(3, 4, 5), at(4, 4, 5), at(3, 5, 5), at(0, 0, 6), 1}, {at(3, 4, 5), at(4, 4, 5), at(3, 5, 5), at(0, 0, 4), -1},
		// Those that have no plane.
		{x, x, y, at(5, 5, 1), 0}, {x, y, x, at(5, 5, 1), 0}, {y, x, x, at(5, 5, 1), 0}, {o, o, o, at(1, 2, 3), 0}, {o, x, at(2, 0, 0), at(5, 5, 1), 0},
		// The furthest ones, and those off by the least.
		{at(-end, -end, -end), at(end, -end, -end), at(-end, end, -end), at(-end, -end, end), 1},
		{at(-end, -end, -end), at(end, end, -end), at(end, -end, end), at(-end, end, end), -1},
		{at(-end, -end, -end), at(end, end, end), at(-end, end, 0), at(end, -end, 0), 0},
		{at(-end, -end, -end), at(end, end, end), at(-end, end, 0), at(end, -end, 1), 1},
		{at(-end, -end, -end), at(end, end, end), at(-end, end, 0), at(end, -end, -1), -1},
		{at(-end, -end, -end), at(end, end, end), at(-end, end, -1), at(end, -end, 1), 0},
	} {
		if got, e := orient.Side(c.a, c.b, c.c, c.p); got != c.want || e != api.OK {
			t.Error("Side", c, got, e)
		}
	}
}

func TestSideOfSome(t *testing.T) {
	m, told := making(21), map[int]int{}
	for range 6000 {
		l := m.some(4)
		want := det(l[0], l[1], l[2], l[3]).Sign()
		if got, e := orient.Side(l[0], l[1], l[2], l[3]); got != want || e != api.OK {
			t.Fatal("Side", l, got, e)
		}
		told[want]++
	}
	if told[-1] < 1000 || told[0] < 1000 || told[1] < 1000 {
		t.Error("too few of a kind to tell", told)
	}
}

func TestSideRefuses(t *testing.T) {
	for _, p := range far() {
		for place := range 4 {
			l := [4]api.Point{{}, {X: 1}, {Y: 1}, {Z: 1}}
			l[place] = p
			if got, e := orient.Side(l[0], l[1], l[2], l[3]); got != 0 || e != api.ErrBound {
				t.Error("Side of what may not be", l, got, e)
			}
		}
		if got, e := orient.Side(p, p, p, p); got != 0 || e != api.ErrBound {
			t.Error("Side of nothing that may be", p, got, e)
		}
	}
}

// P7.2

func checkRank(t *testing.T, l []api.Point, want []int) {
	t.Helper()
	if got, e := orient.Rank(l); got != len(want)-1 || e != api.OK {
		t.Error("Rank", l, got, e)
	}
	if got, e := orient.Spread(l); !slices.Equal(got, want) || e != api.OK {
		t.Error("Spread", l, got, e)
	}
}

func TestRankAndSpreadExamples(t *testing.T) {
	p := at(7, -8, 9)
	for _, c := range []struct {
		l    []api.Point
		want []int
	}{
		{nil, nil}, {[]api.Point{}, nil},
		{[]api.Point{{}}, []int{0}}, {[]api.Point{p}, []int{0}}, {[]api.Point{p, p}, []int{0}}, {[]api.Point{p, p, p, p, p}, []int{0}},
		{[]api.Point{{}, {X: 2}, {X: 4}}, []int{0, 1}},
		{[]api.Point{{X: 1}, {}}, []int{0, 1}}, {[]api.Point{{Y: 1}, {}}, []int{0, 1}}, {[]api.Point{{}, {Z: -1}}, []int{0, 1}},
		{[]api.Point{p, p, p, {}, p, {}}, []int{0, 3}},
		{[]api.Point{{}, {X: 1, Y: 2, Z: 3}, {X: -2, Y: -4, Z: -6}, {X: 5, Y: 10, Z: 15}}, []int{0, 1}},
		{[]api.Point{{}, {X: 1}, {Y: 1}}, []int{0, 1, 2}}, {[]api.Point{{}, {Y: 1}, {Z: 1}}, []int{0, 1, 2}}, {[]api.Point{{}, {Z: 1}, {X: 1}}, []int{0, 1, 2}},
		{[]api.Point{{}, {}, {X: 2}, {X: 4}, {Y: 1}, {X: 9, Y: 9}}, []int{0, 2, 4}},
		{[]api.Point{{}, {}, {X: 2}, {X: 4}, {Y: 1}, {X: 9, Y: 9}, {Z: 1}, {Z: 2}}, []int{0, 2, 4, 6}},
		{[]api.Point{{X: 1}, {Y: 1}, {Z: 1}, {X: 1, Y: 1, Z: -1}}, []int{0, 1, 2}},
		{[]api.Point{{X: 1}, {Y: 1}, {Z: 1}, {}}, []int{0, 1, 2, 3}},
		{[]api.Point{{X: 1}, {Y: 1}, {Z: 1}, {}, p, {X: 1}, {X: 5}}, []int{0, 1, 2, 3}},
		// The furthest ones, and those off by the least.
		{[]api.Point{at(-end, -end, -end), at(end, end, end), {}}, []int{0, 1}},
		{[]api.Point{at(-end, -end, -end), at(end, end, end), {Y: 1}}, []int{0, 1, 2}},
		{[]api.Point{at(-end, -end, -end), at(end, end, end-1), {}}, []int{0, 1, 2}},
		{[]api.Point{at(-end, -end, -end), at(end, end, end), at(-end, end, 0), at(end, -end, 0)}, []int{0, 1, 2}},
		{[]api.Point{at(-end, -end, -end), at(end, end, end), at(-end, end, 0), at(end, -end, 0), at(end, -end, 1)}, []int{0, 1, 2, 4}},
	} {
		checkRank(t, c.l, c.want)
	}
}

func TestRankAndSpreadOfSome(t *testing.T) {
	m, told := making(22), map[int]int{}
	for i := range 3000 {
		l := m.some(i % 8)
		if i%3 == 0 && len(l) > 0 {
			l = slices.Insert(l, 1, l[0], l[0])
		}
		want := places(l)
		checkRank(t, l, want)
		told[len(want)-1]++
	}
	if told[-1] < 100 || told[0] < 100 || told[1] < 100 || told[2] < 100 || told[3] < 100 {
		t.Error("too few of a kind to tell", told)
	}
}

func TestRankAndSpreadOfMany(t *testing.T) {
	l := slices.Repeat([]api.Point{at(1, 2, 3)}, 256)
	checkRank(t, l, []int{0})
	l[255] = at(end, end, end)
	checkRank(t, l, []int{0, 255})
	l[254] = at(end, end, -end)
	checkRank(t, l, []int{0, 254, 255})
	l[253] = at(-end, end, -end)
	checkRank(t, l, []int{0, 253, 254, 255})
	l[17] = at(1, 2, 4)
	checkRank(t, l, []int{0, 17, 253, 254})
}

func refusesRank(t *testing.T, l []api.Point, want api.Errno) {
	t.Helper()
	if got, e := orient.Rank(l); got != 0 || e != want {
		t.Error("Rank of what is refused", len(l), got, e)
	}
	if got, e := orient.Spread(l); len(got) != 0 || e != want {
		t.Error("Spread of what is refused", len(l), got, e)
	}
}

func TestRankAndSpreadRefuse(t *testing.T) {
	for _, n := range []int{257, 258, 512, 5000} {
		refusesRank(t, make([]api.Point, n), api.ErrLong)
	}
	refusesRank(t, making(23).some(257), api.ErrLong)
	for _, p := range far() {
		refusesRank(t, []api.Point{p}, api.ErrBound)
		refusesRank(t, []api.Point{p, p}, api.ErrBound)
		for _, n := range []int{2, 5, 256, 257, 1000} {
			for _, place := range []int{0, 1, n / 2, n - 1} {
				l := make([]api.Point, n)
				l[place] = p
				refusesRank(t, l, api.ErrBound)
			}
		}
		// Behind those whose rank is full.
		refusesRank(t, []api.Point{{}, {X: 1}, {Y: 1}, {Z: 1}, p}, api.ErrBound)
	}
}

// P7.3

func checkInside(t *testing.T, l []api.Point, p api.Point, want bool) {
	t.Helper()
	if got, e := orient.Inside(l, p); got != want || e != api.OK {
		t.Error("Inside", l, p, got, e)
	}
}

func TestInsideExamples(t *testing.T) {
	three := []api.Point{{}, {X: 4}, {Y: 4}}
	for p, want := range map[api.Point]bool{
		{X: 1, Y: 1}: true, {X: 1, Y: 1, Z: 1}: false, {X: 1, Y: 1, Z: -1}: false, {X: 3, Y: 3}: false,
		{X: 2, Y: 2}: true, {X: 3, Y: 2}: false, {X: 2, Y: 3}: false, {X: 3, Y: 1}: true,
		{X: 2}: true, {X: 2, Y: -1}: false, {X: 5}: false, {X: -1}: false, {X: -1, Y: 2}: false, {Y: 3}: true,
		{}: true, {X: 4}: true, {Y: 4}: true, {Y: 5}: false, {X: -1, Y: -1}: false, {X: 5, Y: -1}: false, {X: -1, Y: 5}: false, {Z: 1}: false,
	} {
		checkInside(t, three, p, want)
	}
	four := []api.Point{{}, {X: 4}, {Y: 4}, {Z: 4}}
	for p, want := range map[api.Point]bool{
		{X: 1, Y: 1, Z: 1}: true, {X: 2, Y: 2, Z: 2}: false,
		// A face, just within it, just off it; an edge; a corner.
		{X: 2, Y: 1, Z: 1}: true, {X: 1, Y: 1, Z: 2}: true, {X: 2, Y: 2, Z: 1}: false, {X: 1, Y: 1}: true, {X: 1, Y: 1, Z: -1}: false, {X: 1, Z: 1}: true, {X: 1, Y: -1, Z: 1}: false, {Y: 1, Z: 1}: true, {X: -1, Y: 1, Z: 1}: false,
		{X: 2, Y: 2}: true, {Y: 1, Z: 3}: true, {X: 3}: true, {X: 3, Y: 2}: false, {X: 3, Y: -1}: false, {X: 3, Z: -1}: false,
		{}: true, {X: 4}: true, {Y: 4}: true, {Z: 4}: true, {X: 5}: false, {Y: 5}: false, {Z: 5}: false, {Z: -1}: false, {Y: -1}: false, {X: -1}: false, {X: 1, Z: 4}: false,
	} {
		checkInside(t, four, p, want)
		checkInside(t, []api.Point{four[1], four[0], four[2], four[3]}, p, want)
	}
	two := []api.Point{{X: 1, Y: 1, Z: 1}, {X: 5, Y: -3, Z: 9}}
	for p, want := range map[api.Point]bool{
		{X: 1, Y: 1, Z: 1}: true, {X: 2, Z: 3}: true, {X: 3, Y: -1, Z: 5}: true, {X: 5, Y: -3, Z: 9}: true,
		{Y: 2, Z: -1}: false, {X: 6, Y: -4, Z: 11}: false, {X: 3, Y: -1, Z: 4}: false, {X: 3, Z: 5}: false, {X: 4, Y: -1, Z: 5}: false, {}: false,
	} {
		checkInside(t, two, p, want)
	}
	for p, want := range map[api.Point]bool{{X: 1, Y: 2, Z: 3}: true, {X: 2, Y: 2, Z: 3}: false, {X: 1, Y: 1, Z: 3}: false, {X: 1, Y: 2, Z: 4}: false, {}: false} {
		checkInside(t, []api.Point{{X: 1, Y: 2, Z: 3}}, p, want)
	}
}

func TestInsideAtTheLimits(t *testing.T) {
	a, b, c, d := at(-end, -end, -end), at(end, end, -end), at(end, -end, end), at(-end, end, end)
	checkInside(t, []api.Point{a, b, c, d}, api.Point{}, true)
	checkInside(t, []api.Point{a, b, c, d}, at(end, end, end), false)
	// Middles of edges; the sum of numbers is end on the face of b, c, d.
	checkInside(t, []api.Point{a, b, c, d}, at(end, 0, 0), true)
	checkInside(t, []api.Point{a, b, c, d}, at(end, 1, 0), false)
	checkInside(t, []api.Point{a, b, c, d}, at(end/2, end/4, end/4), true)
	checkInside(t, []api.Point{a, b, c, d}, at(end/2, end/4, end/4+1), false)
	checkInside(t, []api.Point{a, b, c, d}, at(end/2, end/4, end/4-1), true)
	checkInside(t, []api.Point{b, c, d}, at(end/2, end/4, end/4), true)
	checkInside(t, []api.Point{b, c, d}, at(end/2, end/4, end/4+1), false)
	checkInside(t, []api.Point{b, c, d}, at(end/2, end/4, end/4-1), false)
	checkInside(t, []api.Point{b, c}, at(end, 0, 0), true)
	checkInside(t, []api.Point{b, c}, at(end, 1, -1), true)
	checkInside(t, []api.Point{b, c}, at(end, 1, 0), false)
	checkInside(t, []api.Point{b, c}, at(end-1, 0, 0), false)
	checkInside(t, []api.Point{at(end, end-1, 1-end), c}, b, false)
	checkInside(t, []api.Point{c, at(end, end-1, 1-end)}, b, false)
	checkInside(t, []api.Point{b}, b, true)
	checkInside(t, []api.Point{b}, at(end, end, 1-end), false)
}

// about are points to ask of a simplex: its own, sums of them with small weights, such off by one, and others.
func (m maker) about(l []api.Point) []api.Point {
	asked := append(m.some(3), l...)
	for range 6 {
		a, b, n := l[m.Intn(len(l))], l[m.Intn(len(l))], m.Int63n(5)-1
		p := at(a.X+n*(b.X-a.X)/2, a.Y+n*(b.Y-a.Y)/2, a.Z+n*(b.Z-a.Z)/2)
		asked = append(asked, p, moved(p, m.within(1)))
	}
	var sum api.Point
	for _, p := range l {
		sum = moved(sum, p)
	}
	n := int64(len(l))
	asked = append(asked, at(sum.X/n, sum.Y/n, sum.Z/n))
	return slices.DeleteFunc(asked, func(p api.Point) bool { return !mayBe(p) })
}

func TestInsideOfSome(t *testing.T) {
	m := making(24)
	var told [5][2]int
	flat := 0
	for i := range 4000 {
		l := m.some(1 + i%4)
		isFlat := rank(l) != len(l)-1
		for _, p := range m.about(l) {
			if isFlat {
				flat++
				refusesInside(t, l, p, api.ErrFlat)
				continue
			}
			want := holds(l, p)
			checkInside(t, l, p, want)
			if want {
				told[len(l)][1]++
			} else {
				told[len(l)][0]++
			}
		}
	}
	for n := 1; n <= 4; n++ {
		if told[n][0] < 1000 || told[n][1] < 1000 {
			t.Error("too few of a kind to tell", n, told[n])
		}
	}
	if flat < 1000 {
		t.Error("too few are flat to tell", flat)
	}
}

func refusesInside(t *testing.T, l []api.Point, p api.Point, want api.Errno) {
	t.Helper()
	if got, e := orient.Inside(l, p); got || e != want {
		t.Error("Inside of what is refused", len(l), p, got, e)
	}
}

func TestInsideRefuses(t *testing.T) {
	x := at(1, 0, 0)
	none := [][]api.Point{
		nil, {}, {x, x}, {{}, {X: 2}, {X: 4}}, {{}, {}, {Y: 1}}, {{}, {X: 1}, {}}, {x, x, x},
		{{}, {X: 1}, {Y: 1}, {X: 1, Y: 1}}, {{}, {X: 1}, {Y: 1}, {}}, {{}, {X: 1}, {X: 2}, {Z: 1}}, {x, x, x, x},
		// Five are too many, even if four of them are a simplex, or the fifth is one of them.
		{{}, {X: 1}, {Y: 1}, {Z: 1}, {X: 1, Y: 1, Z: 1}}, {{}, {X: 1}, {Y: 1}, {Z: 1}, {}}, {x, x, x, x, x},
		make([]api.Point, 256), make([]api.Point, 257), make([]api.Point, 5000), making(25).some(257),
	}
	for _, l := range none {
		refusesInside(t, l, x, api.ErrFlat)
		refusesInside(t, l, api.Point{}, api.ErrFlat)
	}
	some := [][]api.Point{{{}}, {{}, {X: 1}}, {{}, {X: 1}, {Y: 1}}, {{}, {X: 1}, {Y: 1}, {Z: 1}}}
	for _, p := range far() {
		for _, l := range slices.Concat(none, some) {
			refusesInside(t, l, p, api.ErrBound)
			for _, place := range []int{0, len(l) / 2, len(l)} {
				more := slices.Insert(slices.Clone(l), place, p)
				refusesInside(t, more, x, api.ErrBound)
				refusesInside(t, more, p, api.ErrBound)
			}
		}
		for _, l := range some {
			for place := range l {
				other := slices.Clone(l)
				other[place] = p
				refusesInside(t, other, x, api.ErrBound)
			}
		}
	}
}

// P7.4

func TestVolumeExamples(t *testing.T) {
	four := []api.Point{{}, {X: 4}, {Y: 4}, {Z: 4}}
	if v, e := orient.Volume(four); v != wide.Of(64) || e != api.OK {
		t.Error("Volume", v, e)
	}
	if v, e := orient.Volume([]api.Point{four[1], four[0], four[2], four[3]}); v != wide.Of(-64) || e != api.OK {
		t.Error("Volume turned over", v, e)
	}
	if v, e := orient.Volume([]api.Point{{X: 1, Y: 1, Z: 1}, {X: 3, Y: 4, Z: 6}, {X: 8, Y: 12, Z: 14}, {X: 18, Y: 20, Z: 24}}); v != wide.Of(-78) || e != api.OK {
		t.Error("Volume by rows", v, e)
	}
	// Four that are no simplex have one as well.
	for _, l := range [][]api.Point{make([]api.Point, 4), {{}, {X: 1}, {X: 2}, {Z: 1}}, {{}, {X: 1}, {Y: 1}, {X: 1, Y: 1}}} {
		if v, e := orient.Volume(l); v != (api.Wide{}) || e != api.OK {
			t.Error("Volume of flat ones", l, v, e)
		}
	}
	great := []api.Point{at(-end, -end, -end), at(end, end, -end), at(end, -end, end), at(-end, end, end)}
	if v, e := orient.Volume(great); v != whole(new(big.Int).Lsh(big.NewInt(-1), 88)) || e != api.OK {
		t.Error("Volume of the greatest", v, e)
	}
}

func TestVolumeOfSome(t *testing.T) {
	m, great := making(26), 0
	for range 6000 {
		l := m.some(4)
		want := det(l[0], l[1], l[2], l[3])
		if v, e := orient.Volume(l); v != whole(want) || e != api.OK {
			t.Fatal("Volume", l, v, e)
		}
		if !want.IsInt64() {
			great++
		}
	}
	if great < 1000 {
		t.Error("too few are great to tell", great)
	}
}

func refusesVolume(t *testing.T, l []api.Point, want api.Errno) {
	t.Helper()
	if v, e := orient.Volume(l); v != (api.Wide{}) || e != want {
		t.Error("Volume of what is refused", len(l), v, e)
	}
}

func TestVolumeRefuses(t *testing.T) {
	refusesVolume(t, nil, api.ErrFlat)
	l := []api.Point{{}, {X: 1}, {Y: 1}, {Z: 1}, {X: 1, Y: 1, Z: 1}}
	for _, n := range []int{0, 1, 2, 3, 5} {
		refusesVolume(t, l[:n], api.ErrFlat)
	}
	for _, n := range []int{256, 257, 5000} {
		refusesVolume(t, make([]api.Point, n), api.ErrFlat)
	}
	for _, p := range far() {
		for _, n := range []int{1, 3, 4, 5, 256, 257, 5000} {
			for _, place := range []int{0, n / 3, n / 2, n - 1} {
				l := make([]api.Point, n)
				l[place] = p
				refusesVolume(t, l, api.ErrBound)
			}
		}
	}
}

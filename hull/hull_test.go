package hull_test

import (
	"math/big"
	"slices"
	"testing"

	"ninepin/api"
	"ninepin/hull"
	"ninepin/orient"
	"ninepin/wide"
)

// P8.1

func checkFaces(t *testing.T, l []api.Point, want []api.Face) {
	t.Helper()
	if got, e := hull.Faces(l); !sameFaces(got, want) || e != api.OK {
		t.Error("Faces", l, got, e, "not", want)
	}
}

// boxFaces are those of a box's eight corners, at those places.
func boxFaces(low, high api.Point) []api.Face {
	return []api.Face{
		{N: spanOf(-1, 0, 0), D: wide.Of(-low.X), At: []int{0, 4, 6, 2}},
		{N: spanOf(0, -1, 0), D: wide.Of(-low.Y), At: []int{0, 1, 5, 4}},
		{N: spanOf(0, 0, -1), D: wide.Of(-low.Z), At: []int{0, 2, 3, 1}},
		{N: spanOf(0, 0, 1), D: wide.Of(high.Z), At: []int{4, 5, 7, 6}},
		{N: spanOf(0, 1, 0), D: wide.Of(high.Y), At: []int{2, 6, 7, 3}},
		{N: spanOf(1, 0, 0), D: wide.Of(high.X), At: []int{1, 3, 7, 5}},
	}
}

func TestFacesOfBoxes(t *testing.T) {
	for _, c := range [][2]api.Point{
		{{}, at(2, 3, 4)}, {at(-1, -2, -3), at(3, 3, 3)}, {at(5, -9, 7), at(6, -8, 8)},
		{at(-end, -end, -end), at(end, end, end)}, {at(end-1, end-1, end-1), at(end, end, end)}, {at(-end, -end, -end), at(1-end, end, 1-end)},
	} {
		l, want := box(c[0], c[1]), boxFaces(c[0], c[1])
		checkFaces(t, l, want)
		// The same ones again, a corner among them, and middles of edges, faces and the body.
		l = append(l, l[7], l[0], c[0], c[1], at(c[1].X, c[1].Y, c[0].Z))
		checkFaces(t, l, want)
		for range 3 {
			for _, p := range slices.Clone(l[:8]) {
				q := l[len(l)-1]
				l = append(l, at((p.X+q.X)>>1, (p.Y+q.Y)>>1, (p.Z+q.Z)>>1))
			}
		}
		checkFaces(t, l, want)
	}
}

func TestFacesExamples(t *testing.T) {
	for _, c := range []struct {
		l    []api.Point
		want []api.Face
	}{
		{[]api.Point{{}, {X: 1}, {Y: 1}, {Z: 1}}, []api.Face{
			{N: spanOf(-1, 0, 0), At: []int{0, 3, 2}}, {N: spanOf(0, -1, 0), At: []int{0, 1, 3}}, {N: spanOf(0, 0, -1), At: []int{0, 2, 1}},
			{N: spanOf(1, 1, 1), D: wide.Of(1), At: []int{1, 2, 3}},
		}},
		// Turned over, with points that are the same ahead of and behind the others.
		{[]api.Point{{X: -2}, {X: -2}, {}, {}, {Y: -3}, {}, {Z: -6}, {Z: -6}, {Y: -3}, {X: -1, Y: -1, Z: -1}}, []api.Face{
			{N: spanOf(-3, -2, -1), D: wide.Of(6), At: []int{0, 6, 4}},
			{N: spanOf(0, 0, 1), At: []int{0, 4, 2}}, {N: spanOf(0, 1, 0), At: []int{0, 2, 6}}, {N: spanOf(1, 0, 0), At: []int{2, 4, 6}},
		}},
		// A roof over five corners, two of which are on one line with a third one.
		{[]api.Point{{X: 2, Z: 2}, {Y: 4}, {}, {X: 4}, {X: 4, Y: 4}, {X: 2, Y: 4, Z: 2}, {X: 2, Y: 2, Z: 2}, {X: 2}, {X: 4, Y: 2}, {X: 1, Z: 1}}, []api.Face{
			{N: spanOf(-1, 0, 1), At: []int{0, 5, 1, 2}}, {N: spanOf(0, -1, 0), At: []int{0, 2, 3}}, {N: spanOf(0, 0, -1), At: []int{1, 4, 3, 2}},
			{N: spanOf(0, 1, 0), D: wide.Of(4), At: []int{1, 5, 4}}, {N: spanOf(1, 0, 1), D: wide.Of(4), At: []int{0, 3, 4, 5}},
		}},
	} {
		checkFaces(t, c.l, c.want)
	}
}

// The greatest spans: of points at the limits, where no integer divides them any more.
func TestFacesAtTheLimits(t *testing.T) {
	l := []api.Point{at(-end, -end, -end), at(end, end, -end), at(end, -end, end), at(-end, end, end)}
	checkFaces(t, l, []api.Face{
		{N: spanOf(-1, -1, 1), D: wide.Of(end), At: []int{0, 2, 3}}, {N: spanOf(-1, 1, -1), D: wide.Of(end), At: []int{0, 3, 1}},
		{N: spanOf(1, -1, -1), D: wide.Of(end), At: []int{0, 1, 2}}, {N: spanOf(1, 1, 1), D: wide.Of(end), At: []int{1, 3, 2}},
	})
	for _, more := range [][]api.Point{
		{at(end, end-1, -end), at(-end+1, end, end), at(end, -end, end-3), at(-end, -end, -end)},
		{at(end, end, end), at(end, end, end-1), at(end, end-1, end), at(end-1, end, end)},
		{at(-end, -end, -end), at(1-end, -end, -end), at(end, end, end-1), at(end, end-1, end), at(end-1, end, end)},
		{at(-end, -end, -end), at(end, end, end), at(-end, end, 0), at(end, -end, 1), at(end, -end, 0), at(end, -end, -1)},
	} {
		for _, l := range [][]api.Point{more, append(slices.Clone(l), more...)} {
			checkFaces(t, l, wrapped(l))
		}
	}
	all, great := wrapped([]api.Point{at(end, end-1, -end), at(-end+1, end, end), at(end, -end, end-3), at(-end, -end, -end)}), 0
	for _, f := range all {
		great = max(great, wide.Bits(f.N.X), wide.Bits(f.D))
	}
	if great < 80 {
		t.Error("no number is great", great)
	}
}

func TestFacesOfSome(t *testing.T) {
	m := making(41)
	many, slanted, twice := 0, 0, 0
	for range 700 {
		l := m.lump(13)
		want := wrapped(l)
		checkFaces(t, l, want)
		if len(firsts(l)) < len(l) {
			twice++
		}
		for _, f := range want {
			if len(f.At) > 3 {
				many++
				if wide.Bits(f.N.X) > 40 {
					slanted++
				}
			}
		}
	}
	if many < 300 || slanted < 30 || twice < 100 {
		t.Error("too few of a kind to tell", many, slanted, twice)
	}
}

func TestFacesOfMany(t *testing.T) {
	for _, l := range [][]api.Point{making(42).lump(30), ball(24), making(43).lump(30)} {
		checkFaces(t, l, wrapped(l))
	}
	// 256 points of a block, of which the corners stand somewhere.
	var l []api.Point
	for i := range int64(256) {
		l = append(l, at(i%8-3, i/8%8, i/64-9))
	}
	corners := box(at(-3, 0, -9), at(4, 7, -6))
	l = slices.DeleteFunc(l, func(p api.Point) bool { return slices.Contains(corners, p) })
	checkFaces(t, append(slices.Clone(corners), l...), boxFaces(corners[0], corners[7]))
	if l = append(l[:100:100], slices.Concat(corners, l[100:])...); len(l) != 256 {
		t.Fatal("the test takes others", len(l))
	}
	want := boxFaces(corners[0], corners[7])
	for i := range want {
		for k := range want[i].At {
			want[i].At[k] += 100
		}
	}
	checkFaces(t, l, want)
}

// A prism over 128 corners, which go round to the left above, and the other way below.
func TestFacesOfManyCorners(t *testing.T) {
	var low, high []api.Point
	for i := range int64(128) {
		n := i - 64
		low, high = append(low, at(n, n*n, -end)), append(high, at(n, n*n, end))
	}
	got, e := hull.Faces(slices.Concat(low, high))
	if len(got) != 130 || e != api.OK {
		t.Fatal("Faces", len(got), e)
	}
	for i, f := range got {
		if z := f.N.Z; z == (api.Wide{}) {
			if len(f.At) != 4 {
				t.Error("a side", i, f)
			}
			continue
		}
		want := make([]int, 128)
		for k := range want {
			want[k] = 128 + k
			if wide.Sign(f.N.Z) < 0 {
				want[k] = (128 - k) % 128
			}
		}
		if !slices.Equal(f.At, want) || f.D != wide.Of(end) {
			t.Error("a face of many", f)
		}
	}
}

// refused are lists that Faces, Corners, Edges and Holds refuse, and why.
func refused() map[api.Errno][][]api.Point {
	all := map[api.Errno][][]api.Point{}
	p := at(7, -8, 9)
	block := append(box(at(-1, -1, -1), at(1, 1, 1)), making(44).some(249)...)
	all[api.ErrFlat] = [][]api.Point{
		nil, {}, {p}, {p, p}, {p, {}}, {{}, {X: 2}, {X: 4}}, {{}, {X: 1}, {Y: 1}}, {{}, {X: 1}, {Y: 1}, {X: 1, Y: 1}}, {p, p, p, p},
		{{}, {X: 1}, {Y: 1}, {X: 5, Y: 5}, {}, {X: 1}}, {at(-end, -end, -end), at(end, end, end), at(-end, end, 0), at(end, -end, 0)},
		make([]api.Point, 256), slices.Repeat([]api.Point{p, {}, {X: 1}, {X: 2}}, 64),
	}
	all[api.ErrLong] = [][]api.Point{make([]api.Point, 257), make([]api.Point, 5000), block[:257], slices.Repeat([]api.Point{p, {X: 1}, {Y: 1}, {Z: 1}}, 65)}
	for _, q := range far() {
		all[api.ErrBound] = append(all[api.ErrBound], []api.Point{q}, []api.Point{{}, {X: 1}, {Y: 1}, q}, []api.Point{{}, {X: 1}, {Y: 1}, {Z: 1}, q})
		for _, n := range []int{8, 256, 257} {
			for _, place := range []int{0, 5, n - 1} {
				l := slices.Clone(block[:n])
				l[place] = q
				all[api.ErrBound] = append(all[api.ErrBound], l)
			}
		}
		all[api.ErrBound] = append(all[api.ErrBound], append(make([]api.Point, 5000), q))
	}
	return all
}

func TestFacesRefuse(t *testing.T) {
	for want, lists := range refused() {
		for _, l := range lists {
			if got, e := hull.Faces(l); len(got) != 0 || e != want {
				t.Error("Faces of what is refused", len(l), got, e, "not", want)
			}
		}
	}
}

func TestCmpSpan(t *testing.T) {
	great := []api.Wide{
		whole(new(big.Int).Lsh(big.NewInt(-1), 511)), whole(new(big.Int).Lsh(big.NewInt(-3), 200)), wide.Of(least), wide.Of(-1), {},
		wide.Of(1), wide.Of(2), wide.Of(most), whole(new(big.Int).Lsh(big.NewInt(1), 64)), whole(new(big.Int).Lsh(big.NewInt(5), 300)), {L: [8]uint64{0, 0, 0, 0, 0, 0, 0, 1 << 62}},
	}
	var all []api.Span
	for _, x := range great {
		for _, y := range great {
			for _, z := range great {
				all = append(all, api.Span{X: x, Y: y, Z: z})
			}
		}
	}
	for i, a := range all {
		for k, b := range all {
			want := 0
			if i < k {
				want = -1
			} else if i > k {
				want = 1
			}
			if got := hull.CmpSpan(a, b); got != want {
				t.Fatal("CmpSpan", a, b, got)
			}
		}
	}
}

// P8.2

func checkCornersAndEdges(t *testing.T, l []api.Point, corners []int, edges [][2]int) {
	t.Helper()
	if got, e := hull.Corners(l); !slices.Equal(got, corners) || e != api.OK {
		t.Error("Corners", l, got, e, "not", corners)
	}
	if got, e := hull.Edges(l); !slices.Equal(got, edges) || e != api.OK {
		t.Error("Edges", l, got, e, "not", edges)
	}
}

func TestCornersAndEdgesExamples(t *testing.T) {
	l := box(api.Point{}, at(2, 3, 4))
	corners := []int{0, 1, 2, 3, 4, 5, 6, 7}
	edges := [][2]int{{0, 1}, {0, 2}, {0, 4}, {1, 3}, {1, 5}, {2, 3}, {2, 6}, {3, 7}, {4, 5}, {4, 6}, {5, 7}, {6, 7}}
	checkCornersAndEdges(t, l, corners, edges)
	// Nothing that the body holds is a corner, and the places are those of the first ones.
	more := append(slices.Clone(l), at(1, 1, 1), at(1, 0, 0), at(2, 2, 2), at(2, 3, 4), at(0, 0, 0))
	checkCornersAndEdges(t, more, corners, edges)
	l = []api.Point{{X: 1}, {X: 4}, {X: 4}, {Y: 4}, {X: 1, Y: 1, Z: 1}, {}, {Y: 4}, {X: 2, Y: 2}, {Z: 4}, {}, {Z: 4}}
	checkCornersAndEdges(t, l, []int{1, 3, 5, 8}, [][2]int{{1, 3}, {1, 5}, {1, 8}, {3, 5}, {3, 8}, {5, 8}})
}

// isSum: is p a sum of those points, by weights from 0 on that are 1 together? Then it is one of some four of them, or less.
func isSum(l []api.Point, p api.Point) bool {
	var asked func(from int, chosen []api.Point) bool
	asked = func(from int, chosen []api.Point) bool {
		if in, e := orient.Inside(chosen, p); e == api.OK && in {
			return true
		}
		if len(chosen) == 4 {
			return false
		}
		for i := from; i < len(l); i++ {
			if asked(i+1, append(chosen[:len(chosen):len(chosen)], l[i])) {
				return true
			}
		}
		return false
	}
	return asked(0, nil)
}

func TestCornersAreNoSums(t *testing.T) {
	m := making(45)
	corners, others := 0, 0
	for range 250 {
		l := m.lump(9)
		var want []int
		for _, k := range firsts(l) {
			rest := slices.DeleteFunc(slices.Clone(l), func(p api.Point) bool { return p == l[k] })
			if !isSum(rest, l[k]) {
				want = append(want, k)
			}
		}
		checkCornersAndEdges(t, l, want, slices.Compact(rimEdges(wrapped(l))))
		corners, others = corners+len(want), others+len(l)-len(want)
	}
	if corners < 500 || others < 100 {
		t.Error("too few of a kind to tell", corners, others)
	}
}

func TestCornersAndEdgesOfMany(t *testing.T) {
	l := ball(256)
	got, e := hull.Corners(l)
	if len(got) != 256 || e != api.OK || !slices.IsSorted(got) {
		t.Error("Corners of a ball", got, e)
	}
	for _, l := range [][]api.Point{making(46).lump(30), making(47).lump(30), ball(20)} {
		faces := wrapped(l)
		var all []int
		for _, f := range faces {
			all = append(all, f.At...)
		}
		slices.Sort(all)
		checkCornersAndEdges(t, l, slices.Compact(all), slices.Compact(rimEdges(faces)))
	}
}

func TestCornersAndEdgesRefuse(t *testing.T) {
	for want, lists := range refused() {
		for _, l := range lists {
			if got, e := hull.Corners(l); len(got) != 0 || e != want {
				t.Error("Corners of what is refused", len(l), got, e, "not", want)
			}
			if got, e := hull.Edges(l); len(got) != 0 || e != want {
				t.Error("Edges of what is refused", len(l), got, e, "not", want)
			}
		}
	}
}

// P8.3

func checkFurther(t *testing.T, l []api.Point, n api.Point, want int) {
	t.Helper()
	if got, e := hull.Further(l, n); got != want || e != api.OK {
		t.Error("Further", l, n, got, e, "not", want)
	}
}

func TestFurtherExamples(t *testing.T) {
	l := box(api.Point{}, at(2, 3, 4))
	for _, c := range []struct {
		n    api.Point
		want int
	}{
		{at(1, 1, 1), 7}, {at(-1, -1, -1), 0}, {at(1, -1, 1), 5}, {at(-9, 1, 1), 6}, {at(end, end, -end), 3},
		// Of several that are as far, the first one.
		{api.Point{}, 0}, {at(1, 0, 0), 1}, {at(0, 1, 0), 2}, {at(0, 0, 1), 4}, {at(0, 1, 1), 6}, {at(-1, 0, 0), 0}, {at(3, -2, 0), 1}, {at(2, 0, 1), 5}, {at(-3, 2, 0), 2}, {at(4, 0, -2), 1},
	} {
		checkFurther(t, l, c.n, c.want)
	}
	// Points of any rank.
	p := at(7, -8, 9)
	checkFurther(t, []api.Point{p}, at(-1, 0, 0), 0)
	checkFurther(t, []api.Point{p, p}, p, 0)
	checkFurther(t, []api.Point{{}, p, p, {}}, p, 1)
	checkFurther(t, []api.Point{p, {}, {X: 14, Y: -16, Z: 18}}, p, 2)
	checkFurther(t, []api.Point{{X: 1}, {Y: 2}, {X: 1, Y: 1}}, at(1, 1, 5), 1)
	checkFurther(t, make([]api.Point, 256), at(end, end, end), 0)
	// By the last digit of great products.
	checkFurther(t, []api.Point{at(end, end, end-1), at(end, end-1, end), at(end, end, end)}, at(end, end, end), 2)
	checkFurther(t, []api.Point{at(end, 1, -end), at(end, 2, -end), at(end, 2, -end), at(end, 3, 1-end)}, at(end, 1, -end), 1)
	checkFurther(t, []api.Point{at(-end, -end, -end), at(-end, -end, -end), at(-end, -end, 1-end)}, at(end, end, end), 2)
}

func TestFurtherOfSome(t *testing.T) {
	m := making(48)
	told := map[bool]int{}
	for i := range 3000 {
		l := m.some(1 + i%20)
		n := m.some(1)[0]
		want, several := 0, false
		for k, p := range l {
			switch dot(exact(n), minus(p, l[want])).Sign() {
			case 1:
				want, several = k, false
			case 0:
				several = several || k > 0 && p != l[want]
			}
		}
		checkFurther(t, l, n, want)
		told[several]++
	}
	if told[true] < 100 || told[false] < 1000 {
		t.Error("too few of a kind to tell", told)
	}
}

func TestFurtherRefuses(t *testing.T) {
	refuses := func(l []api.Point, n api.Point, want api.Errno) {
		t.Helper()
		if got, e := hull.Further(l, n); got != 0 || e != want {
			t.Error("Further of what is refused", len(l), n, got, e, "not", want)
		}
	}
	refuses(nil, at(1, 1, 1), api.ErrFlat)
	refuses([]api.Point{}, api.Point{}, api.ErrFlat)
	all := refused()
	for _, l := range all[api.ErrLong] {
		refuses(l, at(1, 1, 1), api.ErrLong)
	}
	for _, l := range all[api.ErrBound] {
		refuses(l, at(1, 1, 1), api.ErrBound)
	}
	for _, n := range far() {
		for _, l := range slices.Concat(all[api.ErrFlat], all[api.ErrLong], all[api.ErrBound], [][]api.Point{box(at(0, 0, 0), at(2, 3, 4)), {{X: 1}}}) {
			refuses(l, n, api.ErrBound)
		}
	}
}

// P8.4

func checkHolds(t *testing.T, l []api.Point, p api.Point, want bool) {
	t.Helper()
	if got, e := hull.Holds(l, p); got != want || e != api.OK {
		t.Error("Holds", l, p, got, e)
	}
}

func TestHoldsExamples(t *testing.T) {
	l := box(api.Point{}, at(2, 3, 4))
	for p, want := range map[api.Point]bool{
		{X: 1, Y: 1, Z: 1}: true, {X: 2, Y: 3, Z: 4}: true, {X: 3}: false, {Z: -1}: false,
		// Corners, edges, faces, and just off them.
		{}: true, {X: -1}: false, {Y: -1}: false, {X: 2, Y: 3, Z: 5}: false, {X: 3, Y: 3, Z: 4}: false, {X: 2, Y: 4, Z: 4}: false,
		{X: 1}: true, {X: 1, Z: -1}: false, {X: 1, Y: -1}: false, {Y: 3, Z: 2}: true, {Y: 4, Z: 2}: false, {X: -1, Y: 3, Z: 2}: false,
		{X: 1, Y: 2}: true, {X: 1, Y: 2, Z: -1}: false, {X: 2, Y: 1, Z: 3}: true, {X: 3, Y: 1, Z: 3}: false, {X: 1, Y: 1, Z: 4}: true, {X: 1, Y: 1, Z: 5}: false,
		{X: -1, Y: 1, Z: 1}: false, {X: 1, Y: 4, Z: 1}: false, {X: end}: false, {X: -end, Y: -end, Z: -end}: false,
	} {
		checkHolds(t, l, p, want)
	}
	// A face that is across no axis.
	l = []api.Point{{}, {X: 6}, {Y: 6}, {Z: 6}}
	for p, want := range map[api.Point]bool{
		{X: 2, Y: 2, Z: 2}: true, {X: 2, Y: 2, Z: 1}: true, {X: 2, Y: 2, Z: 3}: false, {X: 3, Y: 3}: true, {X: 3, Y: 4}: false, {X: 3, Y: 3, Z: -1}: false, {X: 5, Y: 2, Z: -1}: false, {X: 6}: true, {X: 7}: false, {X: 7, Y: -1}: false,
	} {
		checkHolds(t, l, p, want)
	}
	// At the limits, where the sum of numbers is end on the face of the last three.
	l = []api.Point{at(-end, -end, -end), at(end, end, -end), at(end, -end, end), at(-end, end, end)}
	for p, want := range map[api.Point]bool{
		{}: true, at(end, end, end): false, at(end, end, -end): true, at(end, end, 1-end): false, at(end, 0, 0): true, at(end, 1, 0): false, at(end-1, 1, 0): true,
		at(end/2, end/4, end/4): true, at(end/2, end/4, end/4+1): false, at(end/2, end/4, end/4-1): true, at(-end, -end, 1-end): false,
	} {
		checkHolds(t, l, p, want)
	}
}

// about are points to ask of a list: its own, middles of some of them, such off by one, and others.
func (m maker) about(l []api.Point) []api.Point {
	asked := append(m.some(2), l[:3]...)
	for range 8 {
		a, b := l[m.Intn(len(l))], l[m.Intn(len(l))]
		p := at((a.X+b.X)>>1, (a.Y+b.Y)>>1, (a.Z+b.Z)>>1)
		q := l[m.Intn(len(l))]
		r := at((p.X+q.X)>>1, (p.Y+q.Y)>>1, (p.Z+q.Z)>>1)
		asked = append(asked, p, r, moved(p, m.within(1)), moved(a, m.within(1)))
	}
	return slices.DeleteFunc(asked, func(p api.Point) bool { return max(p.X, p.Y, p.Z) > end || min(p.X, p.Y, p.Z) < -end })
}

func TestHoldsSums(t *testing.T) {
	m := making(49)
	told := map[bool]int{}
	for range 120 {
		l := m.lump(8)
		for _, p := range m.about(l) {
			want := isSum(l, p)
			checkHolds(t, l, p, want)
			told[want]++
		}
	}
	if told[true] < 500 || told[false] < 500 {
		t.Error("too few of a kind to tell", told)
	}
}

func TestHoldsRefuses(t *testing.T) {
	refuses := func(l []api.Point, p api.Point, want api.Errno) {
		t.Helper()
		if got, e := hull.Holds(l, p); got || e != want {
			t.Error("Holds of what is refused", len(l), p, got, e, "not", want)
		}
	}
	all := refused()
	for want, lists := range all {
		for _, l := range lists {
			refuses(l, api.Point{}, want)
			refuses(l, at(7, -8, 9), want)
		}
	}
	for _, p := range far() {
		for _, l := range slices.Concat(all[api.ErrFlat], all[api.ErrLong], all[api.ErrBound][:20], [][]api.Point{box(at(0, 0, 0), at(2, 3, 4)), box(at(-end, -end, -end), at(end, end, end))}) {
			refuses(l, p, api.ErrBound)
		}
	}
}

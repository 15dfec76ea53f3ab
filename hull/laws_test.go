package hull_test

import (
	"math/big"
	"slices"
	"testing"

	"ninepin/api"
	"ninepin/grid"
	"ninepin/hull"
	"ninepin/wide"
)

func facesOf(t *testing.T, l []api.Point) []api.Face {
	t.Helper()
	f, e := hull.Faces(l)
	if e != api.OK {
		t.Fatal("Faces", l, e)
	}
	return f
}

// great are lists of up to 256 points, of each kind.
func great() [][]api.Point {
	m := making(51)
	lists := [][]api.Point{ball(256), box(at(-end, -end, -end), at(end, end, end))}
	for _, n := range []int{20, 40, 80, 256} {
		for range 4 {
			lists = append(lists, m.lump(n))
		}
	}
	// All differences of two lists, many of which lie in one plane.
	for range 4 {
		a, b := m.on(3), m.on(3)
		var l []api.Point
		for range 16 {
			from := a()
			for range 16 {
				by := b()
				l = append(l, at((from.X+by.X)/4, (from.Y+by.Y)/4, (from.Z+by.Z)/4))
			}
		}
		lists = append(lists, l)
	}
	return lists
}

// P8.5

func TestFacesAreClosed(t *testing.T) {
	m := making(52)
	lists := great()
	for range 200 {
		lists = append(lists, m.lump(16))
	}
	for _, l := range lists {
		faces := facesOf(t, l)
		corners, e := hull.Corners(l)
		edges, f := hull.Edges(l)
		if e != api.OK || f != api.OK || len(corners)-len(edges)+len(faces) != 2 {
			t.Fatal("corners, less edges, and faces", len(corners), len(edges), len(faces), e, f)
		}
		of := map[[2]int]api.Span{}
		for _, f := range faces {
			for i, k := range f.At {
				edge := [2]int{k, f.At[(i+1)%len(f.At)]}
				if _, there := of[edge]; there {
					t.Fatal("an edge of two faces the same way round", l, f)
				}
				of[edge] = f.N
			}
		}
		for edge, n := range of {
			if other, there := of[[2]int{edge[1], edge[0]}]; !there || other == n {
				t.Fatal("an edge of no other face", l, edge)
			}
			if _, there := slices.BinarySearchFunc(edges, [2]int{min(edge[0], edge[1]), max(edge[0], edge[1])}, func(a, b [2]int) int { return slices.Compare(a[:], b[:]) }); !there {
				t.Fatal("an edge that is none", l, edge)
			}
		}
		if len(of) != 2*len(edges) {
			t.Fatal("edges of faces", len(of), len(edges))
		}
	}
}

// P8.6

// ring is a face by its points, of which the one that stands ahead of the others begins.
type ring struct {
	n      api.Span
	d      api.Wide
	points []api.Point
}

func rings(t *testing.T, l []api.Point) []ring {
	t.Helper()
	var all []ring
	for _, f := range facesOf(t, l) {
		r, first := ring{n: f.N, d: f.D}, 0
		for i, k := range f.At {
			r.points = append(r.points, l[k])
			if grid.Cmp(l[k], l[f.At[first]]) < 0 {
				first = i
			}
		}
		r.points = slices.Concat(r.points[first:], r.points[:first])
		all = append(all, r)
	}
	return all
}

func sameRings(a, b []ring) bool {
	return slices.EqualFunc(a, b, func(r, s ring) bool {
		return r.n == s.n && r.d == s.d && slices.Equal(r.points, s.points)
	})
}

func TestFacesHangOnNoOrder(t *testing.T) {
	m := making(53)
	lists := great()[:8]
	for range 200 {
		lists = append(lists, m.lump(16))
	}
	for _, l := range lists {
		other := slices.Clone(l)
		m.Shuffle(len(other), func(i, k int) { other[i], other[k] = other[k], other[i] })
		if !sameRings(rings(t, l), rings(t, other)) {
			t.Fatal("Faces by order", l, other)
		}
	}
}

func TestWhatIsHeldChangesNoFaces(t *testing.T) {
	m, added := making(54), 0
	for range 200 {
		l := m.lump(12)
		before := facesOf(t, l)
		more, mixed := slices.Clone(l), slices.Clone(l)
		for _, p := range m.about(l) {
			if in, e := hull.Holds(l, p); !in || e != api.OK {
				continue
			}
			added++
			more, mixed = append(more, p), slices.Insert(mixed, m.Intn(len(mixed)+1), p)
		}
		if !sameFaces(facesOf(t, more), before) {
			t.Fatal("added behind", l, more)
		}
		if !sameRings(rings(t, mixed), rings(t, l)) {
			t.Fatal("added between", l, mixed)
		}
	}
	if added < 2000 {
		t.Error("too few are added to tell", added)
	}
}

// room is a difference by which all the points may be moved, as far as it goes.
func (m maker) room(l []api.Point) api.Point {
	one := func(number func(p api.Point) int64) int64 {
		low, high := number(l[0]), number(l[0])
		for _, p := range l {
			low, high = min(low, number(p)), max(high, number(p))
		}
		if m.Intn(2) == 0 {
			return end - high
		}
		return -end - low
	}
	return at(one(func(p api.Point) int64 { return p.X }), one(func(p api.Point) int64 { return p.Y }), one(func(p api.Point) int64 { return p.Z }))
}

func TestMovingAllAlikeMovesD(t *testing.T) {
	m, far := making(55), 0
	for range 200 {
		l := m.lump(16)
		by := m.room(l)
		var other []api.Point
		for _, p := range l {
			other = append(other, moved(p, by))
		}
		want := facesOf(t, l)
		for i, f := range want {
			want[i].D = whole(new(big.Int).Add(integer(f.D), dot(numbers(f.N), exact(by))))
		}
		if !sameFaces(facesOf(t, other), want) {
			t.Fatal("moved", l, by)
		}
		if by != (api.Point{}) {
			far++
		}
	}
	if far < 100 {
		t.Error("too few are moved to tell", far)
	}
}

// P8.7

func TestNoneIsFurtherThanItsFaces(t *testing.T) {
	m, asked := making(56), 0
	lists := great()
	for range 200 {
		lists = append(lists, m.lump(16))
	}
	for _, l := range lists {
		for _, f := range facesOf(t, l) {
			n, d := numbers(f.N), integer(f.D)
			for i, p := range l {
				c := dot(n, exact(p)).Cmp(d)
				if c > 0 || c < 0 && slices.Contains(f.At, i) {
					t.Fatal("off a face", l, f, i)
				}
			}
			if dot(primitive(n), primitive(n)).Cmp(dot(n, n)) != 0 {
				t.Fatal("a span that is not primitive", l, f)
			}
			x, _ := wide.Int(f.N.X)
			y, _ := wide.Int(f.N.Y)
			z, _ := wide.Int(f.N.Z)
			along := at(x, y, z)
			if grid.Check(along) != api.OK {
				continue
			}
			asked++
			k, e := hull.Further(l, along)
			if e != api.OK || grid.Dot(along, l[k]) != f.D {
				t.Fatal("Further along a face", l, f, k, e)
			}
		}
	}
	if asked < 1000 {
		t.Error("too few are asked to tell", asked)
	}
}

// The rules that hold everywhere.

func TestTheSameCallsHaveTheSameAnswers(t *testing.T) {
	l := great()[5]
	faces := facesOf(t, l)
	corners, _ := hull.Corners(l)
	edges, _ := hull.Edges(l)
	for range 10 {
		checkFaces(t, l, faces)
		checkCornersAndEdges(t, l, corners, edges)
	}
}

func TestWhatIsHandedInStays(t *testing.T) {
	m := making(57)
	for range 100 {
		l := m.lump(16)
		n := len(l)
		l = append(l, m.some(3)...)
		before := slices.Clone(l)
		for _, part := range [][]api.Point{l[:n], l[:3]} {
			hull.Faces(part)
			hull.Corners(part)
			hull.Edges(part)
			hull.Further(part, l[n])
			hull.Holds(part, l[n])
		}
		if !slices.Equal(l, before) {
			t.Fatal("changed", before, l)
		}
	}
}

func TestAnswersAreNewMemory(t *testing.T) {
	l := box(api.Point{}, at(2, 3, 4))
	want := boxFaces(api.Point{}, at(2, 3, 4))
	faces := facesOf(t, l)
	corners, _ := hull.Corners(l)
	edges, _ := hull.Edges(l)
	// Who adds to one face, or changes it, changes no other one, nor what is told again.
	for i := range faces {
		_ = append(faces[i].At, -7, -7, -7, -7)
		if !sameFaces(faces[i:], want[i:]) {
			t.Fatal("added to", i, faces)
		}
		for k := range faces[i].At {
			faces[i].At[k] = -7
		}
		faces[i].N.X.L[0]++
		if !sameFaces(faces[i+1:], want[i+1:]) {
			t.Fatal("changed", i, faces)
		}
	}
	clear(corners)
	clear(edges)
	checkFaces(t, l, want)
	checkCornersAndEdges(t, l, []int{0, 1, 2, 3, 4, 5, 6, 7}, slices.Compact(rimEdges(want)))
}

package hull_test

import (
	"cmp"
	"math"
	"math/big"
	"math/rand"
	"slices"
	"testing"

	"ninepin/api"
	"ninepin/wide"
)

const (
	end   = api.MaxPoint
	least = math.MinInt64
	most  = math.MaxInt64
)

func at(x, y, z int64) api.Point { return api.Point{X: x, Y: y, Z: z} }

func spanOf(x, y, z int64) api.Span {
	return api.Span{X: wide.Of(x), Y: wide.Of(y), Z: wide.Of(z)}
}

func moved(p, by api.Point) api.Point { return at(p.X+by.X, p.Y+by.Y, p.Z+by.Z) }

// far are points that may not be, by each of their numbers.
func far() []api.Point {
	var l []api.Point
	for _, n := range []int64{-end - 1, end + 1, 2 * end, -1 << 40, least, most} {
		l = append(l, at(n, 0, end), at(-end, n, 3), at(1, 2, n))
	}
	return append(l, at(least, least, least), at(most, most, most))
}

// box is the eight corners of one, X turning fastest.
func box(low, high api.Point) []api.Point {
	var l []api.Point
	for _, z := range []int64{low.Z, high.Z} {
		for _, y := range []int64{low.Y, high.Y} {
			l = append(l, at(low.X, y, z), at(high.X, y, z))
		}
	}
	return l
}

// maker makes points, the same ones in each run.
type maker struct{ *rand.Rand }

func making(seed int64) maker { return maker{rand.New(rand.NewSource(seed))} }

// number is one from -n to n.
func (m maker) number(n int64) int64 { return m.Int63n(2*n+1) - n }

func (m maker) within(n int64) api.Point { return at(m.number(n), m.number(n), m.number(n)) }

// edge is a point whose numbers are all at the limits, or next to them.
func (m maker) edge() api.Point {
	one := func() int64 { return (end - m.Int63n(2)) * (1 - 2*m.Int63n(2)) }
	return at(one(), one(), one())
}

// on makes points that have rank r at most: by small multiples of r great differences, so that many of rank 3 lie in one plane across no axis.
func (m maker) on(r int) func() api.Point {
	from, by := m.within(end/4), []api.Point{}
	for range r {
		by = append(by, m.within(end/16))
	}
	return func() api.Point {
		p := from
		for _, d := range by {
			k := m.number(2)
			p = moved(p, at(k*d.X, k*d.Y, k*d.Z))
		}
		return p
	}
}

// some is a list of n points: near the middle, where many lie in one plane; at the limits; anywhere; of planes across no axis; all but flat.
func (m maker) some(n int) []api.Point {
	level, solid := m.on(2), m.on(3)
	kind := m.Intn(6)
	l := make([]api.Point, n)
	for i := range l {
		switch kind {
		case 0:
			l[i] = m.within(1)
		case 1:
			l[i] = m.within(3)
		case 2:
			l[i] = m.edge()
		case 3:
			l[i] = m.within(end)
		case 4:
			l[i] = solid()
		default:
			l[i] = level()
			l[i].Z += m.Int63n(8) / 7
		}
	}
	return l
}

// lump is such a list of up to n points, whose rank is 3.
func (m maker) lump(n int) []api.Point {
	for {
		if l := m.some(4 + m.Intn(n-3)); rank(l) == 3 {
			return l
		}
	}
}

// ball is the first n of points that are as far from the middle as each other: so each is a corner.
func ball(n int) []api.Point {
	var l []api.Point
	const r = 33
	for x := int64(-r); x <= r; x++ {
		for y := int64(-r); y <= r; y++ {
			for z := int64(-r); z <= r; z++ {
				if x*x+y*y+z*z == r*r {
					l = append(l, at(x, y, z))
				}
			}
		}
	}
	making(1).Shuffle(len(l), func(i, k int) { l[i], l[k] = l[k], l[i] })
	return l[:n]
}

// triple is an exact vector.
type triple [3]*big.Int

func exact(p api.Point) triple { return triple{big.NewInt(p.X), big.NewInt(p.Y), big.NewInt(p.Z)} }

func minus(a, b api.Point) triple {
	return triple{big.NewInt(a.X - b.X), big.NewInt(a.Y - b.Y), big.NewInt(a.Z - b.Z)}
}

func dot(a, b triple) *big.Int {
	sum := new(big.Int)
	for i := range a {
		sum.Add(sum, new(big.Int).Mul(a[i], b[i]))
	}
	return sum
}

func cross(a, b triple) triple {
	var c triple
	for i := range c {
		k, m := (i+1)%3, (i+2)%3
		c[i] = new(big.Int).Sub(new(big.Int).Mul(a[k], b[m]), new(big.Int).Mul(a[m], b[k]))
	}
	return c
}

// primitive is a vector by the greatest integer that divides it; a zero one stays.
func primitive(a triple) triple {
	by := new(big.Int)
	for _, n := range a {
		by.GCD(nil, nil, by, new(big.Int).Abs(n))
	}
	if by.Sign() == 0 {
		return a
	}
	return triple{new(big.Int).Quo(a[0], by), new(big.Int).Quo(a[1], by), new(big.Int).Quo(a[2], by)}
}

func opposite(a triple) triple {
	return triple{new(big.Int).Neg(a[0]), new(big.Int).Neg(a[1]), new(big.Int).Neg(a[2])}
}

// whole is the form of an integer.
func whole(n *big.Int) api.Wide {
	rest := new(big.Int).Mod(n, new(big.Int).Lsh(big.NewInt(1), 512))
	var a api.Wide
	for i := range a.L {
		a.L[i] = new(big.Int).And(rest, new(big.Int).SetUint64(math.MaxUint64)).Uint64()
		rest.Rsh(rest, 64)
	}
	return a
}

func (a triple) span() api.Span { return api.Span{X: whole(a[0]), Y: whole(a[1]), Z: whole(a[2])} }

// integer is what a form says.
func integer(a api.Wide) *big.Int {
	n := new(big.Int)
	for i := range a.L {
		n.Or(n.Lsh(n, 64), new(big.Int).SetUint64(a.L[7-i]))
	}
	if n.Bit(511) == 1 {
		n.Sub(n, new(big.Int).Lsh(big.NewInt(1), 512))
	}
	return n
}

func numbers(n api.Span) triple { return triple{integer(n.X), integer(n.Y), integer(n.Z)} }

// turn is 1, if a, b, c go round to the left, seen from where n points to, -1 to the right, 0 on a line.
func turn(n triple, a, b, c api.Point) int { return dot(n, cross(minus(b, a), minus(c, a))).Sign() }

// rank is that of all points, from scratch.
func rank(l []api.Point) int {
	if len(l) == 0 {
		return -1
	}
	r := 0
	var line, plane triple
	for _, p := range l {
		d := minus(p, l[0])
		switch {
		case r == 0 && dot(d, d).Sign() != 0:
			r, line = 1, d
		case r == 1:
			if plane = cross(line, d); dot(plane, plane).Sign() != 0 {
				r = 2
			}
		case r == 2 && dot(plane, d).Sign() != 0:
			return 3
		}
	}
	return r
}

// firsts are the places of points that are the same as none ahead of them.
func firsts(l []api.Point) []int {
	var all []int
	for i, p := range l {
		if slices.Index(l, p) == i {
			all = append(all, i)
		}
	}
	return all
}

// wrapped are all faces, found from every three points: for each span, is nothing beyond?
func wrapped(l []api.Point) []api.Face {
	found := map[api.Span]api.Face{}
	places := firsts(l)
	for x, i := range places {
		for y, j := range places[:x] {
			for _, k := range places[:y] {
				n := primitive(cross(minus(l[j], l[i]), minus(l[k], l[i])))
				for _, n := range []triple{n, opposite(n)} {
					if _, there := found[n.span()]; !there && dot(n, n).Sign() != 0 && noneBeyond(l, n, l[i]) {
						found[n.span()] = rim(l, places, n, l[i])
					}
				}
			}
		}
	}
	var all []api.Face
	for _, f := range found {
		all = append(all, f)
	}
	slices.SortFunc(all, func(f, g api.Face) int {
		a, b := numbers(f.N), numbers(g.N)
		return cmp.Or(a[0].Cmp(b[0]), a[1].Cmp(b[1]), a[2].Cmp(b[2]))
	})
	return all
}

func noneBeyond(l []api.Point, n triple, p api.Point) bool {
	return !slices.ContainsFunc(l, func(q api.Point) bool { return dot(n, minus(q, p)).Sign() > 0 })
}

// rim is the face along n that p is on: of its points, those that are between no others, by how they lie around the first one.
func rim(l []api.Point, places []int, n triple, p api.Point) api.Face {
	var on, row []int
	for _, k := range places {
		if dot(n, minus(l[k], p)).Sign() == 0 {
			on = append(on, k)
		}
	}
	for _, k := range on {
		if !between(l, n, on, k) {
			row = append(row, k)
		}
	}
	slices.SortFunc(row[1:], func(i, k int) int { return -turn(n, l[row[0]], l[i], l[k]) })
	return api.Face{N: n.span(), D: whole(dot(n, exact(p))), At: row}
}

// between: is the point at k, of those in a plane, on a line between two others, or inside of three?
func between(l []api.Point, n triple, on []int, k int) bool {
	p := l[k]
	for _, a := range on {
		for _, b := range on {
			if a == k || b == k || turn(n, l[a], l[b], p) < 0 {
				continue
			}
			if turn(n, l[a], l[b], p) == 0 {
				if dot(minus(l[a], p), minus(l[b], p)).Sign() < 0 {
					return true
				}
				continue
			}
			for _, c := range on {
				if c != k && turn(n, l[b], l[c], p) > 0 && turn(n, l[c], l[a], p) > 0 {
					return true
				}
			}
		}
	}
	return false
}

func sameFaces(f, g []api.Face) bool {
	return slices.EqualFunc(f, g, func(a, b api.Face) bool {
		return a.N == b.N && a.D == b.D && slices.Equal(a.At, b.At)
	})
}

// rimEdges are the edges of faces, the lesser place first, each as often as it comes, in order.
func rimEdges(faces []api.Face) [][2]int {
	var all [][2]int
	for _, f := range faces {
		for i, k := range f.At {
			to := f.At[0]
			if i+1 < len(f.At) {
				to = f.At[i+1]
			}
			all = append(all, [2]int{min(k, to), max(k, to)})
		}
	}
	slices.SortFunc(all, func(a, b [2]int) int { return cmp.Or(cmp.Compare(a[0], b[0]), cmp.Compare(a[1], b[1])) })
	return all
}

func TestOraclesThemselves(t *testing.T) {
	four := []api.Point{{}, {X: 4}, {Y: 4}, {Z: 4}, {}, {X: 2, Y: 2}, {X: 1, Y: 1, Z: 1}}
	want := []api.Face{
		{N: spanOf(-1, 0, 0), At: []int{0, 3, 2}},
		{N: spanOf(0, -1, 0), At: []int{0, 1, 3}},
		{N: spanOf(0, 0, -1), At: []int{0, 2, 1}},
		{N: spanOf(1, 1, 1), D: wide.Of(4), At: []int{1, 2, 3}},
	}
	if got := wrapped(four); !sameFaces(got, want) {
		t.Fatal("wrapped", got)
	}
	if got := rimEdges(want); !slices.Equal(got, [][2]int{{0, 1}, {0, 1}, {0, 2}, {0, 2}, {0, 3}, {0, 3}, {1, 2}, {1, 2}, {1, 3}, {1, 3}, {2, 3}, {2, 3}}) {
		t.Fatal("rimEdges", got)
	}
	for n, want := range []int{-1, 0, 1, 2, 3, 3} {
		if got := rank(four[:n]); got != want {
			t.Fatal("rank", n, got)
		}
	}
	if rank([]api.Point{{}, {}, {X: 1}, {X: 2}, {X: 5}}) != 1 || rank([]api.Point{{}, {X: 1}, {X: 2}, {Y: 1}, {X: 7, Y: 7}}) != 2 {
		t.Fatal("rank of flat ones")
	}
	for _, n := range []int64{0, 1, -1, 77, least, most} {
		if integer(wide.Of(n)).Cmp(big.NewInt(n)) != 0 || whole(big.NewInt(n)) != wide.Of(n) {
			t.Fatal("integer, whole", n)
		}
	}
}

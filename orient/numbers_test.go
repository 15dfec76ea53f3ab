package orient_test

import (
	"math"
	"math/big"
	"math/rand"
	"slices"
	"testing"

	"ninepin/api"
)

const (
	end   = api.MaxPoint
	least = math.MinInt64
	most  = math.MaxInt64
)

// beyond are numbers that no point may have.
var beyond = []int64{-end - 1, end + 1, 2 * end, -1 << 40, least, most}

func at(x, y, z int64) api.Point { return api.Point{X: x, Y: y, Z: z} }

// far are points that may not be, by each of their numbers.
func far() []api.Point {
	var l []api.Point
	for _, n := range beyond {
		l = append(l, at(n, 0, end), at(-end, n, 3), at(1, 2, n))
	}
	return append(l, at(least, least, least), at(most, most, most))
}

// maker makes points, the same ones in each run.
type maker struct{ *rand.Rand }

func making(seed int64) maker { return maker{rand.New(rand.NewSource(seed))} }

// number is one from -n to n.
func (m maker) number(n int64) int64 { return m.Int63n(2*n+1) - n }

func (m maker) within(n int64) api.Point { return at(m.number(n), m.number(n), m.number(n)) }

// edge is a point whose numbers are all at the limits, or next to them.
func (m maker) edge() api.Point {
	one := func() int64 { return (end - m.Int63n(2)) * (1 - 2*m.Int63n(2)) }
	return at(one(), one(), one())
}

// on is a point that has rank r at most with some others: by small multiples of r great differences, so that it may be.
func (m maker) on(r int) func() api.Point {
	from, by := m.within(end/4), []api.Point{}
	for range r {
		by = append(by, m.within(end/16))
	}
	return func() api.Point {
		p := from
		for _, d := range by {
			k := m.number(4)
			p = moved(p, at(k*d.X, k*d.Y, k*d.Z))
		}
		return p
	}
}

// some is a list of n points: near the middle, where many lie on one line; at the limits; anywhere; of a rank that is not full, or all but.
func (m maker) some(n int) []api.Point {
	level := m.on(m.Intn(3))
	kind := m.Intn(6)
	var l []api.Point
	for range n {
		switch kind {
		case 0:
			l = append(l, m.within(1))
		case 1:
			l = append(l, m.within(3))
		case 2:
			l = append(l, m.edge())
		case 3:
			l = append(l, m.within(end))
		case 4:
			l = append(l, level())
		default:
			p := level()
			p.Z += m.Int63n(20) / 19
			l = append(l, p)
		}
	}
	return l
}

func moved(p, by api.Point) api.Point { return at(p.X+by.X, p.Y+by.Y, p.Z+by.Z) }

func mayBe(l ...api.Point) bool {
	return !slices.ContainsFunc(l, func(p api.Point) bool {
		return p.X < -1<<28 || p.X > 1<<28 || p.Y < -1<<28 || p.Y > 1<<28 || p.Z < -1<<28 || p.Z > 1<<28
	})
}

// whole is the form of an integer.
func whole(n *big.Int) api.Wide {
	rest := new(big.Int).Mod(n, new(big.Int).Lsh(big.NewInt(1), 512))
	var a api.Wide
	for i := range a.L {
		a.L[i] = new(big.Int).And(rest, new(big.Int).SetUint64(math.MaxUint64)).Uint64()
		rest.Rsh(rest, 64)
	}
	return a
}

// row is a point less another one.
func row(p, from api.Point) [3]*big.Int {
	return [3]*big.Int{big.NewInt(p.X - from.X), big.NewInt(p.Y - from.Y), big.NewInt(p.Z - from.Z)}
}

// det is the determinant of the second, the third, the fourth less the first, as the sum over all orders.
func det(a, b, c, d api.Point) *big.Int {
	rows := [3][3]*big.Int{row(b, a), row(c, a), row(d, a)}
	sum := new(big.Int)
	for _, order := range [][4]int{{0, 1, 2, 1}, {1, 2, 0, 1}, {2, 0, 1, 1}, {0, 2, 1, -1}, {1, 0, 2, -1}, {2, 1, 0, -1}} {
		n := big.NewInt(int64(order[3]))
		for i := range rows {
			n.Mul(n, rows[i][order[i]])
		}
		sum.Add(sum, n)
	}
	return sum
}

// system is equations whose last number is what the others give, each with its weight.
type system [][]*big.Rat

// solved makes each of the columns have one 1 and else 0, as far as that can be, and answers in which row each one has it, or -1.
func (s system) solved(columns int) []int {
	var in []int
	top := 0
	for c := range columns {
		k := slices.IndexFunc(s[top:], func(r []*big.Rat) bool { return r[c].Sign() != 0 })
		if k < 0 {
			in = append(in, -1)
			continue
		}
		s[top], s[top+k] = s[top+k], s[top]
		s.clear(top, c)
		in = append(in, top)
		top++
	}
	return in
}

// clear makes the column 1 in that row, and 0 in all others.
func (s system) clear(top, c int) {
	by := new(big.Rat).Inv(s[top][c])
	for i := range s[top] {
		s[top][i].Mul(s[top][i], by)
	}
	for k := range s {
		if k == top {
			continue
		}
		by := new(big.Rat).Set(s[k][c])
		for i := range s[k] {
			s[k][i].Sub(s[k][i], new(big.Rat).Mul(by, s[top][i]))
		}
	}
}

// weigh is the equations of the weights of points that make p: X, Y, Z, and 1 together.
func weigh(l []api.Point, p api.Point) system {
	s := make(system, 4)
	for _, q := range append(slices.Clone(l), p) {
		for i, n := range []int64{q.X, q.Y, q.Z, 1} {
			s[i] = append(s[i], new(big.Rat).SetInt64(n))
		}
	}
	return s
}

// rank is how many weights are fixed by the equations, less 1.
func rank(l []api.Point) int {
	n := -1
	for _, k := range weigh(l, api.Point{}).solved(len(l)) {
		if k >= 0 {
			n++
		}
	}
	return n
}

// places are those at which the rank of what is ahead is raised: the columns that have a row.
func places(l []api.Point) []int {
	var all []int
	for i, k := range weigh(l, api.Point{}).solved(len(l)) {
		if k >= 0 {
			all = append(all, i)
		}
	}
	return all
}

// holds: are all weights from 0 on, and is there nothing left that they do not make? Of a simplex, whose weights stand in the first rows.
func holds(l []api.Point, p api.Point) bool {
	s := weigh(l, p)
	s.solved(len(l))
	for k, r := range s {
		if left := r[len(l)].Sign(); left < 0 || left > 0 && k >= len(l) {
			return false
		}
	}
	return true
}

func TestOraclesThemselves(t *testing.T) {
	four := []api.Point{{}, {X: 4}, {Y: 4}, {Z: 4}}
	if det(four[0], four[1], four[2], four[3]).Int64() != 64 || rank(four) != 3 || rank(nil) != -1 || rank(four[:1]) != 0 {
		t.Fatal("det, rank")
	}
	if got := places([]api.Point{{}, {}, {X: 2}, {X: 4}, {Y: 1}, {X: 9, Y: 9}, {Z: 1}, {Z: 2}}); !slices.Equal(got, []int{0, 2, 4, 6}) {
		t.Fatal("places", got)
	}
	for n, wants := range [][]bool{{true, false, false, false}, {true, true, false, false}, {true, true, true, false}, {true, true, true, true}} {
		for k, p := range []api.Point{{}, {X: 1}, {X: 1, Y: 2}, {X: 1, Y: 1, Z: 2}} {
			if holds(four[:n+1], p) != wants[k] {
				t.Fatal("holds", n, p)
			}
		}
	}
	if holds(four, at(2, 2, 1)) || holds(four[:3], at(-1, 1, 0)) || holds(four[:2], at(5, 0, 0)) || holds(four[:2], at(-1, 0, 0)) {
		t.Fatal("holds what is outside")
	}
}

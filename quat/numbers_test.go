package quat_test

import (
	"math/big"
	"math/rand"

	"ninepin/api"
)

const (
	one   = api.One
	half  = api.One / 2
	most  = api.MaxFix
	least = api.MinFix
)

// edges are raw numbers about which signs, roundings and limits turn.
var edges = []api.Fix{least, least + 1, -one - 1, -one, -half, -1, 0, 1, half, one, one + 1, most - 1, most}

// plain are such of which most sums and products are within the limits.
var plain = []api.Fix{-3 * one, -one - 1, -half, -1, 0, 1, 2, half, one, 4 * one, 1 << 40}

func by(w, x, y, z api.Fix) api.Quat { return api.Quat{W: w, X: x, Y: y, Z: z} }

// least and greatest turns: their squares are exactly 1/4, and exactly 4.
var (
	leastTurns    = []api.Quat{by(half, 0, 0, 0), by(0, -half, 0, 0), by(0, 0, half, 0), by(0, 0, 0, -half), by(one/4, -one/4, one/4, -one/4)}
	greatestTurns = []api.Quat{by(-2*one, 0, 0, 0), by(0, 2*one, 0, 0), by(0, 0, -2*one, 0), by(0, 0, 0, 2*one), by(one, one, -one, -one)}
)

// justTurns are within 1/4 and 4 by as little as can be, or by little.
var justTurns = []api.Quat{by(half, 1, 0, 0), by(0, 0, -1, half), by(-half, 1, 1, 1), by(half+1, 0, 0, 0), by(2*one-1, 131069, 810, 361), by(-361, 810, 2*one-1, -131069), by(2*one-1, 0, 0, 0), by(one-1, one, one, one)}

// justNone are without by as little as can be, or by little.
var justNone = []api.Quat{by(half-1, 65535, 362, 5), by(-5, 362, -65535, half-1), by(half-1, 0, 0, 0), by(one/4, one/4, one/4, 1-one/4), by(2*one, 1, 0, 0), by(0, -1, 0, -2*one), by(1, 1, 1, 2*one), by(0, 2*one+1, 0, 0), by(one, one, one, -one-1)}

// farNone have squares that a number of fewer bits would not tell.
var farNone = []api.Quat{{}, by(1, -1, 1, -1), by(most, 0, 0, 0), by(0, least, 0, 0), by(least, least, least, least), by(0, 0, most, most), by(1<<62, 1<<62, 1<<62, 1<<62), by(1<<40, one, 0, 0), by(0, 0, -1<<48, one), by(least, 0, 0, one)}

// maker makes quaternions and speeds, the same ones in each run.
type maker struct{ *rand.Rand }

func (m maker) some() api.Fix { return api.Fix(m.Uint64()) >> m.Intn(64) }

func (m maker) pick(l []api.Fix) api.Fix { return l[m.Intn(len(l))] }

func (m maker) of(l []api.Fix) api.Quat { return by(m.pick(l), m.pick(l), m.pick(l), m.pick(l)) }

// about is from -2^bits to 2^bits.
func (m maker) about(bits uint) api.Fix { return api.Fix(m.Int63n(2<<bits) - 1<<bits) }

// turns are rotations: on the edges, just within them, all about, and such as have small numbers beside great ones.
func turns() []api.Quat {
	m := maker{rand.New(rand.NewSource(7))}
	l := append([]api.Quat{by(one, 0, 0, 0), by(0, one, 0, 0), by(0, 0, one, 0), by(0, 0, 0, one), by(one, one, 0, 0), by(one, -one, 0, 0)}, leastTurns...)
	l = append(append(l, greatestTurns...), justTurns...)
	for len(l) < 400 {
		q := by(m.about(33), m.about(33), m.about(33), m.about(33))
		if isTurn(q) {
			l = append(l, q)
		}
		q = by(m.about(uint(m.Intn(33))), m.about(32), m.about(uint(m.Intn(33))), m.about(uint(m.Intn(33))))
		if isTurn(q) {
			l = append(l, q)
		}
	}
	return l
}

func quats() []api.Quat {
	m := maker{rand.New(rand.NewSource(8))}
	l := append(append([]api.Quat{by(most, most, most, most)}, farNone...), justNone...)
	l = append(append(l, justTurns...), turns()[:40]...)
	for range 30 {
		l = append(l, m.of(edges), m.of(plain), by(m.some(), m.some(), m.some(), m.some()))
	}
	return l
}

func speeds() []api.Vec {
	m := maker{rand.New(rand.NewSource(9))}
	l := []api.Vec{{}, {X: 1}, {Y: -1}, {Z: one}, {X: most, Y: most, Z: most}, {X: least, Y: least, Z: least}, {X: least, Y: most, Z: 1}}
	for range 6 {
		l = append(l, api.Vec{X: m.pick(edges), Y: m.pick(edges), Z: m.pick(edges)}, api.Vec{X: m.pick(plain), Y: m.pick(plain), Z: m.pick(plain)}, api.Vec{X: m.some(), Y: m.some(), Z: m.some()})
	}
	return l
}

// four is a quaternion's numbers by their places.
type four[N any] [4]N

func list(q api.Quat) four[api.Fix] { return four[api.Fix]{q.W, q.X, q.Y, q.Z} }

func table(m api.Mat) (t [3][3]api.Fix) {
	for i, r := range m.R {
		t[i] = [3]api.Fix{r.X, r.Y, r.Z}
	}
	return t
}

func raw(n api.Fix) *big.Int { return big.NewInt(int64(n)) }

func raws(q api.Quat) (l four[*big.Int]) {
	for i, n := range list(q) {
		l[i] = raw(n)
	}
	return l
}

func power(n uint) *big.Int { return new(big.Int).Lsh(big.NewInt(1), n) }

func squareOf(l ...api.Fix) *big.Int {
	all := new(big.Int)
	for _, n := range l {
		all.Add(all, new(big.Int).Mul(raw(n), raw(n)))
	}
	return all
}

// square is the exact one, with 64 bits behind the point.
func square(q api.Quat) *big.Int { return squareOf(q.W, q.X, q.Y, q.Z) }

func isTurn(q api.Quat) bool {
	s := square(q)
	return s.Cmp(power(62)) >= 0 && s.Cmp(power(66)) <= 0
}

// unit is the product of two of 1, i, j, k: which one it is, and whether it is less than 0.
func unit(a, b int) (at int, below bool) {
	switch {
	case a == 0 || b == 0:
		return a + b, false
	case a == b:
		return 0, true
	}
	// i j k stand around: a unit by the one that follows it is the third.
	return 6 - a - b, b != a%3+1
}

// product goes over all pairs of units.
func product(p, q four[*big.Int]) (l four[*big.Int]) {
	for i := range l {
		l[i] = new(big.Int)
	}
	for a, x := range p {
		for b, y := range q {
			n := new(big.Int).Mul(x, y)
			at, below := unit(a, b)
			if below {
				n.Neg(n)
			}
			l[at].Add(l[at], n)
		}
	}
	return l
}

// within is the number of a raw one that need not fit.
func within(n *big.Int) api.Fix {
	if n.IsInt64() {
		return api.Fix(n.Int64())
	}
	if n.Sign() < 0 {
		return least
	}
	return most
}

// brought is the number of an exact one that has so many bits behind the point: Rsh goes down.
func brought(n *big.Int, behind uint) api.Fix { return within(new(big.Int).Rsh(n, behind-32)) }

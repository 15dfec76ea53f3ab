package mass_test

import (
	"math/big"
	"math/rand"
	"testing"

	"ninepin/api"
)

const (
	one   = api.One
	half  = api.One / 2
	size  = api.MaxSize
	step  = api.One >> 16 // the grid's
	most  = api.MaxFix
	least = api.MinFix
	light = api.LeastMass
	heavy = api.MaxMass
)

func at(x, y, z api.Fix) api.Vec { return api.Vec{X: x, Y: y, Z: z} }

func ball(r api.Fix) api.Shape { return api.Shape{Kind: api.Sphere, R: r} }

func capsule(r, h api.Fix) api.Shape { return api.Shape{Kind: api.Capsule, R: r, H: at(0, 0, h)} }

func box(r, x, y, z api.Fix) api.Shape { return api.Shape{Kind: api.Box, R: r, H: at(x, y, z)} }

func solid(r api.Fix, l ...api.Vec) api.Shape { return api.Shape{Kind: api.Solid, R: r, L: l} }

// wedge is a solid with just these halves, if each is at least a step.
func wedge(r, x, y, z api.Fix) api.Shape {
	return solid(r, at(r-x, 0, 0), at(x-r, y-r, 0), at(0, r-y, r-z), at(0, 0, z-r))
}

// plain is a shape of each kind, with halves that differ where they may.
func plain() []api.Shape {
	return []api.Shape{ball(one), capsule(one, 2*one), box(one, one, 2*one, 3*one), wedge(0, one, 2*one, 3*one)}
}

// edges are shapes of each kind that are as thin, and as great, as may be.
func edges() []api.Shape {
	return []api.Shape{
		ball(1), ball(2), ball(size), ball(size - 1),
		capsule(1, 1), capsule(1, size), capsule(size, 1), capsule(size, size),
		box(0, step, step, step), box(0, size, step, step), box(0, step, size, step), box(0, step, step, size),
		box(0, size, size, step), box(0, size, size, size), box(size, step, step, step), box(size, size, size, size), box(1, size, size-1, size),
		wedge(0, step, step, step), wedge(0, size, step, size), wedge(0, size, size, size), wedge(size, size+step, 2*size, size+step), wedge(size, 2*size, 2*size, 2*size),
	}
}

// arg are shapes that may not be, flat such as span no body.
func arg() []api.Shape {
	return []api.Shape{
		{}, {Kind: 5}, {Kind: -1, R: one}, ball(0), ball(-1), ball(size + 1), capsule(one, 0), capsule(0, one), box(0, 0, one, one), box(0, one, step-1, one), box(-1, one, one, one),
		box(0, one, one, size+1), solid(0), solid(0, at(0, 0, 0), at(one, 0, 0), at(0, one, 0)), solid(0, at(0, 0, 0), at(one, 0, 0), at(0, one, 0), at(0, 0, -size-1)),
	}
}

func flat() []api.Shape {
	return []api.Shape{
		solid(0, at(0, 0, 0), at(one, 0, 0), at(0, one, 0), at(one, one, 0)),
		solid(one, at(0, 0, 0), at(0, 0, 0), at(0, 0, 0), at(0, 0, 0)),
		solid(size, at(size, 0, 0), at(0, size, 0), at(0, 0, size), at(size, 1, 0), at(1, size, 1)),
	}
}

// maker makes shapes, masses and the like, the same ones in each run.
type maker struct{ *rand.Rand }

func making(seed int64) maker { return maker{rand.New(rand.NewSource(seed))} }

// some is a number of any bits.
func (m maker) some() api.Fix { return api.Fix(m.Uint64()) >> m.Intn(64) }

// length is one from a step to the greatest size.
func (m maker) length() api.Fix {
	switch m.Intn(6) {
	case 0:
		return size - api.Fix(m.Intn(2))
	case 1, 2:
		return one / 8 * api.Fix(1+m.Intn(512))
	}
	return min(size, step+api.Fix(m.Int63())>>(25+m.Intn(24)))
}

// shape is one that may be.
func (m maker) shape() api.Shape {
	loose := m.length() * api.Fix(m.Intn(2))
	switch m.Intn(5) {
	case 0:
		return ball(api.Fix(m.Int63n(int64(size))>>m.Intn(38)) + 1)
	case 1:
		return capsule(m.length(), m.length())
	case 2:
		return box(loose, m.length(), m.length(), m.length())
	default:
		return m.crowded(wedge(loose, loose+m.length(), loose+m.length(), loose+m.length()))
	}
}

// crowded is a solid with points put among its own, in any order.
func (m maker) crowded(s api.Shape) api.Shape {
	n := func() api.Fix { return m.length() * api.Fix(m.Intn(3)-1) }
	for len(s.L) < api.MaxCorners && m.Intn(4) > 0 {
		s.L = append(s.L, at(n(), n(), n()))
	}
	m.Shuffle(len(s.L), func(i, k int) { s.L[i], s.L[k] = s.L[k], s.L[i] })
	return s
}

// mass is one that may be: of few bits, of many, at the limits.
func (m maker) mass() api.Fix {
	switch m.Intn(4) {
	case 0:
		return one * 3 * api.Fix(1+m.Intn(100))
	case 1:
		return []api.Fix{light, light + 1, heavy - 1, heavy}[m.Intn(4)]
	default:
		return max(light, min(heavy, api.Fix(m.Int63())>>(11+m.Intn(28))))
	}
}

// turn is a quaternion that is a rotation.
func (m maker) turn() api.Quat {
	for {
		n := func() api.Fix { return api.Fix(m.Int63n(int64(4*one))) - 2*one }
		if q := (api.Quat{W: n(), X: n(), Y: n(), Z: n()}); isTurn(q) {
			return q
		}
	}
}

func (m maker) vec() api.Vec {
	l := []api.Fix{0, 1, -1, one, -one, most, least, most - 1, m.some(), m.some()}
	n := func() api.Fix { return l[m.Intn(len(l))] }
	return at(n(), n(), n())
}

// moments are such that may be a body's.
func (m maker) moments() api.Vec {
	n := func() api.Fix { return api.Fix(m.Int63()) >> m.Intn(63) }
	return at(n(), n(), n())
}

// shapes are those at the edges, and n others.
func shapes(seed int64, n int) []api.Shape {
	m := making(seed)
	l := append(plain(), edges()...)
	for range n {
		l = append(l, m.shape())
	}
	return l
}

// masses are those about the limits, and n others.
func masses(seed int64, n int) []api.Fix {
	m := making(seed)
	l := []api.Fix{light, light + 1, half, one - 1, one, one + 1, 3 * one, heavy - 1, heavy}
	for range n {
		l = append(l, m.mass())
	}
	return l
}

// noMasses may not be.
func noMasses() []api.Fix {
	return []api.Fix{0, 1, light - 1, heavy + 1, -1, -light, -one, -heavy, most, least, least + 1, 2 * heavy}
}

func list(v api.Vec) [3]api.Fix { return [3]api.Fix{v.X, v.Y, v.Z} }

func raw(n api.Fix) *big.Int { return big.NewInt(int64(n)) }

func power(n uint) *big.Int { return new(big.Int).Lsh(big.NewInt(1), n) }

func plus(a, b *big.Int) *big.Int { return new(big.Int).Add(a, b) }

func times(a, b *big.Int) *big.Int { return new(big.Int).Mul(a, b) }

// within is the number of a raw one that need not fit.
func within(n *big.Int) api.Fix {
	if n.IsInt64() {
		return api.Fix(n.Int64())
	}
	if n.Sign() < 0 {
		return least
	}
	return most
}

// brought is an exact number, brought in: Div rounds down by a divisor above 0.
func brought(n *big.Rat) api.Fix {
	return within(new(big.Int).Div(new(big.Int).Lsh(n.Num(), 32), n.Denom()))
}

// exact is a number as a fraction.
func exact(n api.Fix) *big.Rat { return new(big.Rat).SetFrac(raw(n), power(32)) }

// halves are those of a shape that may be.
func halves(s api.Shape) [3]api.Fix {
	if s.Kind == api.Capsule || s.Kind == api.Sphere {
		return [3]api.Fix{s.R, s.R, s.R + s.H.Z}
	}
	h := list(s.H)
	for _, p := range s.L {
		for i, n := range list(p) {
			h[i] = max(h[i], n, -n)
		}
	}
	return [3]api.Fix{h[0] + s.R, h[1] + s.R, h[2] + s.R}
}

// exactMoments are those of a shape that may be, ahead of being brought in.
func exactMoments(s api.Shape, m api.Fix) (l [3]*big.Rat) {
	h := halves(s)
	for i := range l {
		l[i] = new(big.Rat)
		for k, n := range h {
			if k != i {
				l[i].Add(l[i], new(big.Rat).Mul(exact(n), exact(n)))
			}
		}
		l[i].Mul(l[i], exact(m))
		l[i].Mul(l[i], big.NewRat(1, 3))
	}
	return l
}

// want is the mass of a shape that may be.
func want(s api.Shape, m api.Fix) api.Mass {
	l := exactMoments(s, m)
	return api.Mass{M: m, I: at(brought(l[0]), brought(l[1]), brought(l[2]))}
}

// wantBack is 1 by a number.
func wantBack(n api.Fix) api.Fix {
	if n <= 0 {
		return 0
	}
	return within(new(big.Int).Div(power(64), raw(n)))
}

func square(q api.Quat) *big.Int {
	all := new(big.Int)
	for _, n := range []api.Fix{q.W, q.X, q.Y, q.Z} {
		all.Add(all, times(raw(n), raw(n)))
	}
	return all
}

func isTurn(q api.Quat) bool {
	s := square(q)
	return s.Cmp(power(62)) >= 0 && s.Cmp(power(66)) <= 0
}

// wantMatrix is the matrix of a rotation, in raw numbers: 1 less twice what is turned away, by the square.
func wantMatrix(q api.Quat) (m [3][3]*big.Int) {
	v, s := [3]*big.Int{raw(q.X), raw(q.Y), raw(q.Z)}, square(q)
	for i := range m {
		for j := range m {
			n := new(big.Int)
			if i == j {
				// The square of W and of this axis, less those of the two others: all of them, less twice the two others.
				n.Set(times(big.NewInt(2), plus(times(v[i], v[i]), times(raw(q.W), raw(q.W)))))
				n.Sub(n, s)
			} else {
				k := 3 - i - j
				n = times(raw(q.W), v[k])
				if (i+1)%3 == j {
					n.Neg(n)
				}
				n = times(big.NewInt(2), plus(n, times(v[i], v[j])))
			}
			m[i][j] = n.Div(n.Lsh(n, 32), s)
		}
	}
	return m
}

// wantTurned is what Turned has to answer of a rotation.
func wantTurned(i api.Vec, q api.Quat) (m api.Mat) {
	r, d := wantMatrix(q), list(i)
	for j := range m.R {
		var row [3]api.Fix
		for k := range row {
			all := new(big.Int)
			for n := range d {
				all.Add(all, times(times(r[j][n], raw(d[n])), r[k][n]))
			}
			row[k] = within(all.Rsh(all, 64)) // Rsh goes down
		}
		m.R[j] = at(row[0], row[1], row[2])
	}
	return m
}

// The oracles are held against what can be told without them.

func TestOraclesThemselves(t *testing.T) {
	if h := halves(wedge(one, 5*one, 4*one, 3*one)); h != [3]api.Fix{5 * one, 4 * one, 3 * one} {
		t.Error("halves of a solid", h)
	}
	if h := halves(capsule(one, 2*one)); h != [3]api.Fix{one, one, 3 * one} {
		t.Error("halves of a capsule", h)
	}
	if h := halves(box(one, 1, 2, 3)); h != [3]api.Fix{one + 1, one + 2, one + 3} {
		t.Error("halves of a box", h)
	}
	if m := want(box(0, one, 2*one, 3*one), 6*one); m != (api.Mass{M: 6 * one, I: at(26*one, 20*one, 10*one)}) {
		t.Error("want", m)
	}
	if brought(big.NewRat(-1, 1<<33)) != -1 || brought(big.NewRat(1, 3)) != 1431655765 || brought(big.NewRat(1<<31, 1)) != most || brought(big.NewRat(-1<<31-1, 1)) != least {
		t.Error("brought")
	}
	// A quarter to the left about Z: X goes to Y.
	if r := wantMatrix(api.Quat{W: one, Z: one}); r[0][0].Sign() != 0 || r[0][1].Cmp(raw(-one)) != 0 || r[1][0].Cmp(raw(one)) != 0 || r[2][2].Cmp(raw(one)) != 0 || r[1][1].Sign() != 0 {
		t.Error("wantMatrix", r)
	}
	if m := wantTurned(at(1, 2, 3), api.Quat{W: -one, Z: -one}); m != (api.Mat{R: [3]api.Vec{{X: 2}, {Y: 1}, {Z: 3}}}) {
		t.Error("wantTurned", m)
	}
	exactly, over, nothing := 0, 0, 0
	m := making(100)
	for range 2000 {
		s, k := m.shape(), m.mass()
		for i, n := range exactMoments(s, k) {
			back := exact(list(want(s, k).I)[i])
			switch {
			case back.Cmp(n) == 0:
				exactly++
			case back.Cmp(exact(most)) == 0:
				over++
			case back.Sign() == 0:
				nothing++
			}
		}
	}
	if exactly < 20 || over < 100 || nothing < 5 {
		t.Error("too few of a kind to tell", exactly, over, nothing)
	}
}

package pose_test

import (
	"math/big"
	"math/rand"
	"slices"
	"sort"
	"testing"

	"ninepin/api"
)

const (
	one   = api.One
	half  = api.One / 2
	size  = api.MaxSize
	edge  = api.MaxPlace
	step  = api.One >> 16 // the grid's
	most  = api.MaxFix
	least = api.MinFix
)

func at(x, y, z api.Fix) api.Vec { return api.Vec{X: x, Y: y, Z: z} }

func turn(w, x, y, z api.Fix) api.Quat { return api.Quat{W: w, X: x, Y: y, Z: z} }

func posed(p api.Vec, q api.Quat) api.Pose { return api.Pose{P: p, Q: q} }

// straight is not turned.
var straight = turn(one, 0, 0, 0)

func ball(r api.Fix) api.Shape { return api.Shape{Kind: api.Sphere, R: r} }

func capsule(r, h api.Fix) api.Shape { return api.Shape{Kind: api.Capsule, R: r, H: at(0, 0, h)} }

func box(r, x, y, z api.Fix) api.Shape { return api.Shape{Kind: api.Box, R: r, H: at(x, y, z)} }

func solid(r api.Fix, l ...api.Vec) api.Shape { return api.Shape{Kind: api.Solid, R: r, L: l} }

// wedge is a solid of four points, none of which lies in the middle.
func wedge(r, x, y, z api.Fix) api.Shape {
	return solid(r, at(x, 0, 0), at(-x, -y, 0), at(0, y, z), at(0, 0, -z))
}

// plain is a shape of each kind, with numbers that differ where they may.
func plain() []api.Shape {
	return []api.Shape{ball(one), capsule(one, 2*one), box(one, one, 2*one, 3*one), wedge(0, one, 2*one, 3*one)}
}

// edges are shapes of each kind that are as thin, and as great, as may be.
func edges() []api.Shape {
	return []api.Shape{
		ball(1), ball(size), capsule(1, 1), capsule(1, size), capsule(size, 1), capsule(size, size),
		box(0, step, step, step), box(0, size, step, step), box(0, step, size, step), box(0, step, step, size),
		box(0, size, size, step), box(0, size, size, size), box(size, step, step, step), box(size, size, size, size),
		wedge(0, step, step, step), wedge(0, size, step, size), wedge(size, size, size, size), wedge(1, size, size-1, step),
		solid(0, at(size, size, size), at(size, size, size-step), at(size, size-step, size), at(size-step, size, size)),
		solid(0, at(-size, -size, -size), at(size, size, -size), at(size, -size, size), at(-size, size, size), at(0, 0, 0), at(0, 0, 0)),
	}
}

// arg are shapes that may not be, flat such as span no body.
func arg() []api.Shape {
	return []api.Shape{
		{}, {Kind: 5}, {Kind: -1, R: one}, ball(0), ball(-1), ball(size + 1), capsule(one, 0), capsule(0, one), box(0, 0, one, one), box(0, one, step-1, one), box(-1, one, one, one),
		box(0, one, one, size+1), solid(0), solid(0, at(0, 0, 0), at(one, 0, 0), at(0, one, 0)), solid(0, at(0, 0, 0), at(one, 0, 0), at(0, one, 0), at(0, 0, -size-1)),
	}
}

func flat() []api.Shape {
	return []api.Shape{
		solid(0, at(0, 0, 0), at(one, 0, 0), at(0, one, 0), at(one, one, 0)),
		solid(one, at(0, 0, 0), at(0, 0, 0), at(0, 0, 0), at(0, 0, 0)),
		solid(size, at(size, 0, 0), at(0, size, 0), at(0, 0, size), at(size, 1, 0), at(1, size, 1)),
	}
}

// along are the three vectors that have n along one axis, and k along the others.
func along(n, k api.Fix) []api.Vec { return []api.Vec{at(n, k, k), at(k, n, k), at(k, k, n)} }

// places are such that may be, at the ends among them.
func places() []api.Vec {
	return slices.Concat([]api.Vec{{}, at(one, 2*one, 3*one), at(edge, edge, edge), at(-edge, -edge, -edge), at(edge, -edge, 0), at(-1, 1, step/2)},
		along(edge, 0), along(-edge, 0), along(edge-1, 5), along(1-edge, -edge))
}

// noPlaces may not be.
func noPlaces() []api.Vec {
	return slices.Concat(along(edge+1, 0), along(-edge-1, 0), along(edge+1, edge), along(-edge-1, -edge), along(most, 0), along(least, 0), along(least+1, one), along(2*edge, -1),
		[]api.Vec{at(most, most, most), at(least, least, least), at(edge+1, -edge-1, edge+1)})
}

// turns are rotations: One, such as are no units, at either end of what one may be.
func turns() []api.Quat {
	return []api.Quat{
		straight, turn(-one, 0, 0, 0), turn(0, one, 0, 0), turn(0, 0, one, 0), turn(0, 0, 0, one), turn(one, one, 0, 0), turn(half, 0, 0, -half), turn(one, 0, half, 0),
		turn(half, 0, 0, 0), turn(0, 0, 0, -half), turn(half, 1, 0, 0), turn(one/4, one/4, -one/4, one/4), turn(half+1, 0, 0, 0),
		turn(2*one, 0, 0, 0), turn(0, -2*one, 0, 0), turn(one, one, -one, one), turn(2*one-1, 131069, 810, 361), turn(one-1, one, one, one),
		turn(one, 1, -1, 0), turn(one, one/3, -one/7, one/11), turn(3*one/4, 0, one, 0),
	}
}

// noTurns are none.
func noTurns() []api.Quat {
	return []api.Quat{
		{}, turn(1, 0, 0, 0), turn(half-1, 0, 0, 0), turn(half-1, 65535, 362, 5), turn(one/4, one/4, one/4, 1-one/4), turn(2*one, 1, 0, 0), turn(0, 0, 2*one+1, 0), turn(one, one, one+1, one),
		turn(most, 0, 0, 0), turn(0, least, 0, 0), turn(least, least, least, least), turn(most, most, most, most), turn(one, 0, 0, least),
	}
}

// maker makes poses, shapes and the like, the same ones in each run.
type maker struct{ *rand.Rand }

func making(seed int64) maker { return maker{rand.New(rand.NewSource(seed))} }

// some is a number of any bits.
func (m maker) some() api.Fix { return api.Fix(m.Uint64()) >> m.Intn(64) }

// about is a number from 0 less n to n: most often any one, but few bits, and the ends, as well.
func (m maker) about(n api.Fix) api.Fix {
	switch m.Intn(8) {
	case 0:
		return n - api.Fix(m.Intn(2))
	case 1:
		return api.Fix(m.Intn(2)) - n
	case 2:
		return max(-n, min(n, m.some()))
	case 3:
		return n / 64 * api.Fix(m.Intn(129)-64)
	}
	return api.Fix(m.Int63n(int64(2*n+1))) - n
}

func (m maker) vec(n api.Fix) api.Vec { return at(m.about(n), m.about(n), m.about(n)) }

// any is a vector of whatever numbers.
func (m maker) any() api.Vec {
	l := []api.Fix{0, 1, -1, one, -one, edge, -edge, most, least, most - 1, most - edge, least + edge, m.some(), m.some(), m.some()}
	n := func() api.Fix { return l[m.Intn(len(l))] }
	return at(n(), n(), n())
}

// turn is a rotation.
func (m maker) turn() api.Quat {
	if l := turns(); m.Intn(4) == 0 {
		return l[m.Intn(len(l))]
	}
	for {
		n := func() api.Fix { return m.about(2*one) >> m.Intn(4) }
		if q := turn(n(), n(), n(), n()); isTurn(q) {
			return q
		}
	}
}

// unit is what Unit tells of a rotation.
func (m maker) unit() api.Quat { return wantUnit(m.turn()) }

// pose is one that may be.
func (m maker) pose() api.Pose {
	if m.Intn(2) == 0 {
		return posed(m.vec(edge), m.unit())
	}
	return posed(m.vec(edge), m.turn())
}

// length is one from a step to the greatest size.
func (m maker) length() api.Fix { return max(step, m.about(size), 8*step*api.Fix(m.Intn(3))) }

// shape is one that may be.
func (m maker) shape() api.Shape {
	loose := m.length() * api.Fix(m.Intn(2))
	switch m.Intn(5) {
	case 0:
		return ball(m.length())
	case 1:
		return capsule(m.length(), m.length())
	case 2:
		return box(loose, m.length(), m.length(), m.length())
	}
	s := wedge(loose, m.length(), m.length(), m.length())
	for len(s.L) < api.MaxCorners && m.Intn(4) > 0 {
		s.L = append(s.L, m.vec(size))
	}
	m.Shuffle(len(s.L), func(i, k int) { s.L[i], s.L[k] = s.L[k], s.L[i] })
	return s
}

// poses are those of all places and turns at the edges, and n others.
func poses(seed int64, n int) []api.Pose {
	m := making(seed)
	var l []api.Pose
	for _, p := range places() {
		for _, q := range turns() {
			l = append(l, posed(p, q))
		}
	}
	for range n {
		l = append(l, m.pose())
	}
	return l
}

// shapes are those at the edges, and n others.
func shapes(seed int64, n int) []api.Shape {
	m := making(seed)
	l := append(plain(), edges()...)
	for range n {
		l = append(l, m.shape())
	}
	return l
}

func list(v api.Vec) [3]api.Fix { return [3]api.Fix{v.X, v.Y, v.Z} }

func vector(l [3]api.Fix) api.Vec { return at(l[0], l[1], l[2]) }

func raw(n api.Fix) *big.Int { return big.NewInt(int64(n)) }

func power(n uint) *big.Int { return new(big.Int).Lsh(big.NewInt(1), n) }

func plus(l ...*big.Int) *big.Int {
	all := new(big.Int)
	for _, n := range l {
		all.Add(all, n)
	}
	return all
}

func times(a, b *big.Int) *big.Int { return new(big.Int).Mul(a, b) }

func below(n *big.Int) *big.Int { return new(big.Int).Neg(n) }

// within is the number of a raw one that need not fit.
func within(n *big.Int) api.Fix {
	if n.IsInt64() {
		return api.Fix(n.Int64())
	}
	if n.Sign() < 0 {
		return least
	}
	return most
}

// brought is the number of an exact one that has so many bits behind the point: Rsh goes down.
func brought(n *big.Int, behind uint) api.Fix { return within(new(big.Int).Rsh(n, behind-32)) }

func square(q api.Quat) *big.Int {
	return plus(times(raw(q.W), raw(q.W)), times(raw(q.X), raw(q.X)), times(raw(q.Y), raw(q.Y)), times(raw(q.Z), raw(q.Z)))
}

func isTurn(q api.Quat) bool {
	s := square(q)
	return s.Cmp(power(62)) >= 0 && s.Cmp(power(66)) <= 0
}

func isPlace(p api.Vec) bool {
	for _, n := range list(p) {
		if n > 1024<<32 || n < -1024<<32 {
			return false
		}
	}
	return true
}

// want is what Check has to answer.
func want(p api.Pose) api.Errno {
	switch {
	case !isPlace(p.P):
		return api.ErrBound
	case !isTurn(p.Q):
		return api.ErrTurn
	}
	return api.OK
}

// wantMatrix is the matrix of a rotation, in raw numbers.
func wantMatrix(q api.Quat) (m [3][3]*big.Int) {
	v, s := [3]*big.Int{raw(q.X), raw(q.Y), raw(q.Z)}, square(q)
	for i := range m {
		for j := range m {
			n := new(big.Int)
			if i == j {
				// The square of W and of this axis, less those of the two others: twice the former, less all.
				n = plus(times(v[i], v[i]), times(raw(q.W), raw(q.W)))
				n.Sub(n.Lsh(n, 1), s)
			} else {
				k := 3 - i - j
				n = times(raw(q.W), v[k])
				if (i+1)%3 == j {
					n.Neg(n)
				}
				n = plus(n, times(v[i], v[j]))
				n.Lsh(n, 1)
			}
			m[i][j] = n.Div(n.Lsh(n, 32), s) // rounds down by a divisor above 0
		}
	}
	return m
}

// exactOut is a point in a pose, number by number, with 64 bits behind the point.
func exactOut(p api.Pose, v api.Vec) (l [3]*big.Int) {
	m, n := wantMatrix(p.Q), list(v)
	for i := range l {
		l[i] = new(big.Int).Lsh(raw(list(p.P)[i]), 32)
		for j := range n {
			l[i].Add(l[i], times(m[i][j], raw(n[j])))
		}
	}
	return l
}

// exactIn is likewise what In has to answer, ahead of being brought in.
func exactIn(p api.Pose, v api.Vec) (l [3]*big.Int) {
	m, n, from := wantMatrix(p.Q), list(v), list(p.P)
	for i := range l {
		l[i] = new(big.Int)
		for j := range n {
			l[i].Add(l[i], times(m[j][i], plus(raw(n[j]), below(raw(from[j])))))
		}
	}
	return l
}

func allBrought(l [3]*big.Int) api.Vec {
	return at(brought(l[0], 64), brought(l[1], 64), brought(l[2], 64))
}

func wantOut(p api.Pose, v api.Vec) api.Vec { return allBrought(exactOut(p, v)) }

func wantIn(p api.Pose, v api.Vec) api.Vec { return allBrought(exactIn(p, v)) }

// nearest is the multiple of 2^-16 that is nearest to an exact number with 64 bits behind the point, from the middle up.
func nearest(n *big.Int) int64 {
	return new(big.Int).Rsh(plus(n, power(47)), 48).Int64()
}

// wantCore is the core of a shape that may be.
func wantCore(s api.Shape) []api.Vec {
	x, y, z := s.H.X, s.H.Y, s.H.Z
	switch s.Kind {
	case api.Sphere:
		return []api.Vec{{}}
	case api.Capsule:
		return []api.Vec{at(0, 0, -z), at(0, 0, z)}
	case api.Box:
		return []api.Vec{at(-x, -y, -z), at(x, -y, -z), at(-x, y, -z), at(x, y, -z), at(-x, -y, z), at(x, -y, z), at(-x, y, z), at(x, y, z)}
	}
	return s.L
}

// wantPoints are those of a shape in a pose, where both may be.
func wantPoints(p api.Pose, s api.Shape) []api.Point {
	var l []api.Point
	for _, v := range wantCore(s) {
		n := exactOut(p, v)
		l = append(l, api.Point{X: nearest(n[0]), Y: nearest(n[1]), Z: nearest(n[2])})
	}
	return l
}

// wantSpin is q and t by 2 times the product of (0, w) and q.
func wantSpin(q api.Quat, w api.Vec, t api.Fix) api.Quat {
	a, b, c := raw(w.X), raw(w.Y), raw(w.Z)
	r, x, y, z := raw(q.W), raw(q.X), raw(q.Y), raw(q.Z)
	spun := func(was *big.Int, way ...*big.Int) api.Fix {
		return brought(plus(new(big.Int).Lsh(was, 65), times(plus(way...), raw(t))), 97)
	}
	return turn(
		spun(r, below(times(a, x)), below(times(b, y)), below(times(c, z))),
		spun(x, times(a, r), times(b, z), below(times(c, y))),
		spun(y, times(b, r), times(c, x), below(times(a, z))),
		spun(z, times(c, r), times(a, y), below(times(b, x))),
	)
}

// wantUnit is a rotation by the root of its square: each number is the greatest that is not above the exact one.
func wantUnit(q api.Quat) api.Quat {
	s := square(q)
	// It grows with n, so that numbers can be held against roots by it.
	signed := func(n api.Fix) *big.Int { return times(raw(n), new(big.Int).Abs(raw(n))) }
	share := func(n api.Fix) api.Fix {
		exact := times(signed(n), power(64))
		above := sort.Search(int(2*one+1), func(k int) bool { return times(signed(api.Fix(k)-one), s).Cmp(exact) > 0 })
		return api.Fix(above) - one - 1
	}
	return turn(share(q.W), share(q.X), share(q.Y), share(q.Z))
}

// wantMove is what Move has to answer of a pose that may be; how many numbers of P were clamped, and whether Q stayed.
func wantMove(p api.Pose, v, w api.Vec, t api.Fix) (q api.Pose, clamped int, stayed bool) {
	far := list(p.P)
	for i, n := range list(v) {
		exact := plus(new(big.Int).Lsh(raw(far[i]), 32), times(raw(n), raw(t)))
		far[i] = brought(exact, 64)
		switch {
		case far[i] > 1024<<32:
			far[i] = 1024 << 32
			clamped++
		case far[i] < -1024<<32:
			far[i] = -1024 << 32
			clamped++
		}
	}
	q = posed(vector(far), wantSpin(p.Q, w, t))
	if !isTurn(q.Q) {
		q.Q = p.Q
		return q, clamped, true
	}
	q.Q = wantUnit(q.Q)
	return q, clamped, false
}

// The oracles are held against what can be told without them.

func TestOraclesThemselves(t *testing.T) {
	// A quarter to the left about Z: X goes to Y.
	quarter := turn(one, 0, 0, one)
	if v := wantOut(posed(at(1, 2, 3), quarter), at(10, 20, 30)); v != at(-19, 12, 33) {
		t.Error("wantOut", v)
	}
	if v := wantIn(posed(at(1, 2, 3), quarter), at(-19, 12, 33)); v != at(10, 20, 30) {
		t.Error("wantIn", v)
	}
	for n, want := range map[int64]int64{0: 0, 1 << 47: 1, 1<<47 - 1: 0, -1 << 47: 0, -1<<47 - 1: -1, 3 << 48: 3} {
		if got := nearest(big.NewInt(n)); got != want {
			t.Error("nearest", n, got)
		}
	}
	if l := wantPoints(posed(at(0, 0, step), quarter), box(0, one, 2*one, 3*one)); len(l) != 8 || l[1] != (api.Point{X: 2 << 16, Y: 1 << 16, Z: 1 - 3<<16}) {
		t.Error("wantPoints", l)
	}
	if q := wantUnit(turn(one, -one, 0, 0)); q != turn(3037000499, -3037000500, 0, 0) {
		t.Error("wantUnit", q)
	}
	if wantUnit(turn(2*one, 0, 0, 0)) != straight || wantUnit(turn(0, -half, 0, 0)) != turn(0, -one, 0, 0) || wantUnit(turn(3*one/4, 0, -one, 0)) != turn(2576980377, 0, -3435973837, 0) {
		t.Error("wantUnit of what is exact, and of what is not")
	}
	if q := wantSpin(turn(0, 0, one, 0), at(0, 0, 2*one), one); q != turn(0, -one, one, 0) {
		t.Error("wantSpin", q)
	}
	if q := wantSpin(straight, at(0, one, -one), 3); q != turn(one, 0, 1, -2) {
		t.Error("wantSpin", q)
	}
	if q, n, stayed := wantMove(posed(at(edge, 1-edge, 0), straight), at(1, -2, 3), at(0, 0, 4*one), one); q != posed(at(edge, -edge, 3), straight) || n != 2 || !stayed {
		t.Error("wantMove", q, n, stayed)
	}
}

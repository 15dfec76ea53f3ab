package shape_test

import (
	"math"
	"math/big"
	"math/rand"
	"slices"
	"testing"

	"ninepin/api"
)

const (
	one  = api.One
	most = api.MaxSize
	step = api.One >> 16 // the grid's
)

func at(x, y, z api.Fix) api.Vec { return api.Vec{X: x, Y: y, Z: z} }

func ball(r api.Fix) api.Shape { return api.Shape{Kind: api.Sphere, R: r} }

func capsule(r, h api.Fix) api.Shape { return api.Shape{Kind: api.Capsule, R: r, H: at(0, 0, h)} }

func box(r, x, y, z api.Fix) api.Shape { return api.Shape{Kind: api.Box, R: r, H: at(x, y, z)} }

func solid(r api.Fix, l ...api.Vec) api.Shape { return api.Shape{Kind: api.Solid, R: r, L: l} }

// corner is four points with sides along the axes.
func corner(n api.Fix) []api.Vec { return []api.Vec{{}, {X: n}, {Y: n}, {Z: n}} }

// many is a list of n points, none of which is another one; of rank 3 from 4 on.
func many(n int) []api.Vec {
	var l []api.Vec
	for i := range n {
		k := api.Fix(i)
		l = append(l, at(k*one/8, k*k*one/64, k*k*k*one/512))
	}
	return l
}

// plain is a shape of each kind, the least of its kind in lists and numbers that are not 1.
func plain() []api.Shape {
	return []api.Shape{ball(one), capsule(one, 2*one), box(0, one, 2*one, 3*one), solid(0, corner(one)...)}
}

// odd are numbers of all sizes, with those at the limits and next to them.
func odd() []api.Fix {
	l := []api.Fix{0, api.MaxFix, api.MaxFix - 1, api.MinFix, api.MinFix + 1}
	for _, n := range []api.Fix{1, 2, step / 2, step, one, most, 2 * most, 1 << 62} {
		l = append(l, n-1, n, n+1, 1-n, -n, -n-1)
	}
	return l
}

// maker makes shapes, the same ones in each run.
type maker struct{ *rand.Rand }

func making(seed int64) maker { return maker{rand.New(rand.NewSource(seed))} }

// number is one from 1 to the greatest size, most often with few bits.
func (m maker) number() api.Fix {
	if m.Intn(6) == 0 {
		return most - api.Fix(m.Intn(2))
	}
	return min(most, 1+api.Fix(m.Int63())>>(25+m.Intn(38)))
}

// signed is one of either sign, or 0.
func (m maker) signed() api.Fix { return m.number() * api.Fix(m.Intn(3)-1) }

// thick is one that a box may have.
func (m maker) thick() api.Fix { return max(step, m.number()) }

// points is a list of n points: of all sizes; of few steps of the grid, and all but in one place, on one line, in one plane there; the same ones time and again.
func (m maker) points(n int) []api.Vec {
	kind, scale := m.Intn(5), api.Fix(1)<<(14+m.Intn(20))
	l := make([]api.Vec, n)
	for i := range l {
		few := func() api.Fix { return api.Fix(m.Intn(5)-2) * scale }
		little := func() api.Fix { return api.Fix(m.Intn(int(step))) - step/2 }
		switch kind {
		case 0:
			l[i] = at(m.signed(), m.signed(), m.signed())
		case 1:
			l[i] = at(few(), few(), few())
		case 2:
			l[i] = at(few(), few(), little())
		case 3:
			l[i] = at(little(), few(), little())
		default:
			l[i] = at(few(), few(), 0)
			if i > 0 {
				l[i] = l[m.Intn(i)]
			}
			if m.Intn(4) == 0 {
				l[i].Z += few()
			}
		}
	}
	return l
}

// some is a shape that may be, but for its rank.
func (m maker) some() api.Shape {
	r := m.number()
	loose := r * api.Fix(m.Intn(2))
	switch m.Intn(5) {
	case 0:
		return ball(r)
	case 1:
		return capsule(r, m.number())
	case 2:
		return box(loose, m.thick(), m.thick(), m.thick())
	default:
		return solid(loose, m.points(4+m.Intn(api.MaxCorners-3))...)
	}
}

// good is one that may be.
func (m maker) good() api.Shape {
	for {
		if s := m.some(); want(s) == api.OK {
			return s
		}
	}
}

// wrong is such a shape with one thing put wrong, or odd at least.
func (m maker) wrong() api.Shape {
	s, l := m.some(), odd()
	n := l[m.Intn(len(l))]
	switch m.Intn(8) {
	case 0:
		s.Kind = m.Intn(9) - 2
	case 1:
		s.R = n
	case 2:
		s.H.X = n
	case 3:
		s.H.Y = n
	case 4:
		s.H.Z = n
	case 5:
		s.L = m.points(m.Intn(20))
	case 6:
		s.L = slices.Clone(s.L[:min(len(s.L), 1+m.Intn(5))])
	default:
		if len(s.L) > 0 {
			*number(&s.L[m.Intn(len(s.L))], m.Intn(3)) = n
		}
	}
	return s
}

// any is a shape of whatever numbers.
func (m maker) any() api.Shape {
	l := odd()
	one := func() api.Fix { return l[m.Intn(len(l))] }
	s := api.Shape{Kind: m.Intn(7) - 1, R: one(), H: at(one(), one(), one())}
	for range m.Intn(20) {
		s.L = append(s.L, at(one(), one(), one()))
	}
	return s
}

// shapes are n of all three.
func shapes(seed int64, n int) []api.Shape {
	m := making(seed)
	var l []api.Shape
	for range n {
		l = append(l, m.some(), m.wrong(), m.any())
	}
	return l
}

// number is where one of a vector's numbers stands.
func number(v *api.Vec, axis int) *api.Fix { return []*api.Fix{&v.X, &v.Y, &v.Z}[axis] }

func list(v api.Vec) []api.Fix { return []api.Fix{v.X, v.Y, v.Z} }

func raw(n api.Fix) *big.Int { return big.NewInt(int64(n)) }

func squared(n *big.Int) *big.Int { return new(big.Int).Mul(n, n) }

func square(v api.Vec) *big.Int {
	sum := new(big.Int)
	for _, n := range list(v) {
		sum.Add(sum, squared(raw(n)))
	}
	return sum
}

// numbers are all that a shape has.
func numbers(s api.Shape) []api.Fix {
	all := append([]api.Fix{s.R}, list(s.H)...)
	for _, v := range s.L {
		all = append(all, list(v)...)
	}
	return all
}

// rounded is the integer that is nearest to a number by 2^-16, from the middle up.
func rounded(n api.Fix) *big.Int {
	twice := new(big.Int).Add(raw(n), raw(n))
	return twice.Div(twice.Add(twice, raw(step)), raw(2*step)) // rounds down by a divisor above 0
}

// det is the determinant of three vectors from a first one, rounded each.
func det(from, a, b, c api.Vec) *big.Int {
	less := func(v api.Vec) [3]*big.Int {
		var l [3]*big.Int
		for i := range l {
			l[i] = new(big.Int).Sub(rounded(list(v)[i]), rounded(list(from)[i]))
		}
		return l
	}
	x, y, z := less(a), less(b), less(c)
	sum := new(big.Int)
	for i := range 3 {
		k, n := (i+1)%3, (i+2)%3
		part := new(big.Int).Mul(y[k], z[n])
		part.Sub(part, new(big.Int).Mul(y[n], z[k]))
		sum.Add(sum, part.Mul(part, x[i]))
	}
	return sum
}

// flat: are there no four points that span a body? (The first may be one of them, if there are any.)
func flat(l []api.Vec) bool {
	for i, a := range l {
		for k, b := range l[:i] {
			for _, c := range l[:k] {
				if det(l[0], a, b, c).Sign() != 0 {
					return false
				}
			}
		}
	}
	return true
}

// want is what Check has to answer, by the table of the document.
func want(s api.Shape) api.Errno {
	none := s.H == api.Vec{}
	n := len(s.L)
	may := false
	switch s.Kind {
	case 1:
		may = s.R > 0 && none && n == 0
	case 2:
		may = s.R > 0 && s.H == at(0, 0, s.H.Z) && s.H.Z > 0 && n == 0
	case 3:
		may = s.R >= 0 && s.H.X >= 1<<16 && s.H.Y >= 1<<16 && s.H.Z >= 1<<16 && n == 0
	case 4:
		may = s.R >= 0 && none && n >= 4 && n <= 16
	}
	for _, k := range numbers(s) {
		may = may && k <= 64<<32 && k >= -64<<32
	}
	if !may {
		return api.ErrArg
	}
	if s.Kind == 4 && flat(s.L) {
		return api.ErrFlat
	}
	return api.OK
}

// wantCore is the core of a shape that may be.
func wantCore(s api.Shape) []api.Vec {
	x, y, z := s.H.X, s.H.Y, s.H.Z
	switch s.Kind {
	case 1:
		return []api.Vec{{}}
	case 2:
		return []api.Vec{{Z: -z}, {Z: z}}
	case 3:
		return []api.Vec{
			{X: -x, Y: -y, Z: -z}, {X: x, Y: -y, Z: -z}, {X: -x, Y: y, Z: -z}, {X: x, Y: y, Z: -z},
			{X: -x, Y: -y, Z: z}, {X: x, Y: -y, Z: z}, {X: -x, Y: y, Z: z}, {X: x, Y: y, Z: z},
		}
	}
	return s.L
}

// wantHalf is the vector of the halves of a shape that may be.
func wantHalf(s api.Shape) api.Vec {
	h := at(s.R, s.R, s.R)
	for _, p := range wantCore(s) {
		for i, n := range list(p) {
			k := number(&h, i)
			*k = max(*k, s.R+n, s.R-n)
		}
	}
	return h
}

// wantReach is the least number that is not below R and the length of any point of the core.
func wantReach(s api.Shape) api.Fix {
	var far api.Fix
	for _, p := range wantCore(s) {
		n := new(big.Int).Sqrt(square(p))
		if squared(n).Cmp(square(p)) < 0 {
			n.Add(n, big.NewInt(1))
		}
		far = max(far, api.Fix(n.Int64()))
	}
	return s.R + far
}

// The oracles are held against what can be told without them.

func TestOraclesThemselves(t *testing.T) {
	for _, c := range []struct {
		n    api.Fix
		want int64
	}{{0, 0}, {step, 1}, {step / 2, 1}, {step/2 - 1, 0}, {-step / 2, 0}, {-step/2 - 1, -1}, {-step, -1}, {math.MaxInt64, 1 << 47}, {math.MinInt64, -1 << 47}} {
		if got := rounded(c.n); got.Int64() != c.want {
			t.Error("rounded", c.n, got)
		}
	}
	l := corner(2 * step)
	if d := det(l[0], l[1], l[2], l[3]); d.Int64() != 8 {
		t.Error("det", d)
	}
	if d := det(l[1], l[0], l[2], l[3]); d.Int64() != -8 {
		t.Error("det", d)
	}
	if flat(l) || !flat(l[:3]) || !flat(nil) || !flat([]api.Vec{l[0], l[0], l[1], l[2]}) || flat([]api.Vec{l[0], l[0], l[1], l[2], l[3]}) {
		t.Error("flat")
	}
	if n := wantReach(box(0, one, 2*one, 2*one)); n != 3*one {
		t.Error("wantReach", n)
	}
	if h := wantHalf(solid(1, at(-5, 2, 0), at(4, 3, -1))); h != at(6, 4, 2) {
		t.Error("wantHalf", h)
	}
	told := map[api.Errno]int{}
	for _, s := range shapes(90, 1000) {
		told[want(s)]++
	}
	if told[api.OK] < 500 || told[api.ErrArg] < 500 || told[api.ErrFlat] < 200 {
		t.Error("too few of a kind to tell", told)
	}
}

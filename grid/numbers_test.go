package grid_test

import (
	"math"
	"math/big"
	"math/rand"
	"testing"

	"ninepin/api"
)

const (
	end   = api.MaxPoint
	least = math.MinInt64
	most  = math.MaxInt64
)

// edges are a point's numbers about which signs and limits turn: those of points, and those of a vector's numbers, 2^47.
var edges = []int64{least, least + 1, -1<<47 - 1, -1 << 47, -1<<47 + 1, -end - 1, -end, 1 - end, -2, -1, 0, 1, 3, end - 1, end, end + 1, 1<<47 - 1, 1 << 47, 1<<47 + 1, most - 1, most}

// within are such as may be.
var within = []int64{-end, 1 - end, -1 << 14, -6, -1, 0, 1, 2, 9, 1 << 20, end - 1, end}

// middles are raw numbers in the very middle between two multiples, just beside it, and on a multiple, all over the range.
func middles() []api.Fix {
	var l []api.Fix
	for _, k := range []int64{-1 << 47, -end - 2, -end - 1, -end, 1 - end, -70000, -3, -2, -1, 0, 1, 2, 70000, end - 1, end, end + 1, 1<<47 - 1} {
		whole := api.Fix(k << 16)
		l = append(l, whole, whole+1, whole+1<<15-1, whole+1<<15, whole+1<<15+1, whole+1<<16-1)
	}
	return l
}

func at(x, y, z int64) api.Point { return api.Point{X: x, Y: y, Z: z} }

func by(x, y, z api.Wide) api.Span { return api.Span{X: x, Y: y, Z: z} }

// along is n in one place of three, and what stands elsewhere.
func along(place int, n, elsewhere int64) api.Point {
	l := [3]int64{elsewhere, elsewhere, elsewhere}
	l[place] = n
	return at(l[0], l[1], l[2])
}

// maker makes points and spans, the same ones in each run.
type maker struct{ *rand.Rand }

func (m maker) pick(l []int64) int64 { return l[m.Intn(len(l))] }

func (m maker) some() int64 { return int64(m.Uint64()) >> m.Intn(64) }

func (m maker) of(l []int64) api.Point { return at(m.pick(l), m.pick(l), m.pick(l)) }

// points are any, but many of them may be.
func points() []api.Point {
	m := maker{rand.New(rand.NewSource(11))}
	l := []api.Point{{}, at(1, 0, 0), at(0, -1, 0), at(0, 0, 1), at(least, least, least), at(most, most, most), at(least, most, least), at(most, 0, least), at(end, end, end), at(-end, end, -end)}
	for range 16 {
		l = append(l, m.of(edges), m.of(within), at(m.some(), m.some(), m.some()))
	}
	return l
}

// wides are numbers of all lengths about which signs and limits turn.
func wides() []api.Wide {
	m := maker{rand.New(rand.NewSource(12))}
	l := []api.Wide{{}, power(-1, 511, 0), power(-1, 511, 1), top(0), top(-1)}
	for _, n := range []uint{0, 1, 2, 62, 63, 64, 127, 255, 447, 448, 449, 509, 510} {
		l = append(l, power(1, n, 0), power(-1, n, 0), power(1, n, 1), power(-1, n, -1))
	}
	for range 40 {
		n := new(big.Int).Rand(m.Rand, exact(power(1, uint(1+m.Intn(510)), 0)))
		if m.Intn(2) == 0 {
			n.Neg(n)
		}
		l = append(l, sure(n))
	}
	return l
}

// spans are of wide numbers, and such as have a great divisor, or a zero number.
func spans() []api.Span {
	m := maker{rand.New(rand.NewSource(13))}
	l, w := []api.Span{}, wides()
	pick := func() api.Wide { return w[m.Intn(len(w))] }
	for _, n := range w {
		l = append(l, by(n, api.Wide{}, api.Wide{}), by(api.Wide{}, n, api.Wide{}), by(api.Wide{}, api.Wide{}, n), by(n, n, n), by(pick(), n, pick()), by(pick(), api.Wide{}, n))
	}
	for range 300 {
		k := new(big.Int).Rand(m.Rand, exact(power(1, uint(1+m.Intn(440)), 0)))
		part := func() api.Wide { return sure(new(big.Int).Mul(k, big.NewInt(m.some()))) }
		l = append(l, by(part(), part(), part()))
	}
	return l
}

func list(p api.Point) [3]int64 { return [3]int64{p.X, p.Y, p.Z} }

func three(n api.Span) [3]*big.Int { return [3]*big.Int{exact(n.X), exact(n.Y), exact(n.Z)} }

func bigs(p api.Point) [3]*big.Int {
	return [3]*big.Int{big.NewInt(p.X), big.NewInt(p.Y), big.NewInt(p.Z)}
}

// mayBe is written out, not asked of the package that is tested.
func mayBe(p api.Point) bool {
	for _, n := range list(p) {
		if n < -1<<28 || n > 1<<28 {
			return false
		}
	}
	return true
}

func plus(a, b *big.Int) *big.Int { return new(big.Int).Add(a, b) }

func minus(a, b *big.Int) *big.Int { return new(big.Int).Sub(a, b) }

func times(a, b *big.Int) *big.Int { return new(big.Int).Mul(a, b) }

func dot(a, b [3]*big.Int) *big.Int {
	return plus(plus(times(a[0], b[0]), times(a[1], b[1])), times(a[2], b[2]))
}

func cross(a, b [3]*big.Int) [3]*big.Int {
	return [3]*big.Int{
		minus(times(a[1], b[2]), times(a[2], b[1])),
		minus(times(a[2], b[0]), times(a[0], b[2])),
		minus(times(a[0], b[1]), times(a[1], b[0])),
	}
}

// exact reads limbs as two's complement.
func exact(a api.Wide) *big.Int {
	n := new(big.Int)
	for i := 7; i >= 0; i-- {
		n.Or(n.Lsh(n, 64), new(big.Int).SetUint64(a.L[i]))
	}
	if a.L[7]>>63 == 1 {
		n.Sub(n, new(big.Int).Lsh(big.NewInt(1), 512))
	}
	return n
}

// written is the form of an integer, and whether it fits.
func written(n *big.Int) (api.Wide, bool) {
	limit := new(big.Int).Lsh(big.NewInt(1), 511)
	if n.Cmp(limit) >= 0 || n.Cmp(new(big.Int).Neg(limit)) < 0 {
		return api.Wide{}, false
	}
	rest := new(big.Int).Mod(n, new(big.Int).Lsh(limit, 1))
	var a api.Wide
	for i := range a.L {
		a.L[i] = new(big.Int).And(rest, new(big.Int).SetUint64(math.MaxUint64)).Uint64()
		rest.Rsh(rest, 64)
	}
	return a, true
}

// sure is the form of an integer that fits.
func sure(n *big.Int) api.Wide {
	a, ok := written(n)
	if !ok {
		panic("a test's number does not fit")
	}
	return a
}

// power is sign times 2^n, and more.
func power(sign int64, n uint, more int64) api.Wide {
	return sure(plus(new(big.Int).Lsh(big.NewInt(sign), n), big.NewInt(more)))
}

// top is the greatest wide number, and more.
func top(more int64) api.Wide {
	return sure(plus(new(big.Int).Lsh(big.NewInt(1), 511), big.NewInt(more-1)))
}

func TestFormsOfTheTestsThemselves(t *testing.T) {
	for _, a := range wides() {
		if back, ok := written(exact(a)); !ok || back != a {
			t.Fatal("written", a)
		}
	}
	if exact(top(0)).BitLen() != 511 || exact(power(-1, 511, 0)).BitLen() != 512 {
		t.Fatal("the limits")
	}
	if _, ok := written(plus(exact(top(0)), big.NewInt(1))); ok {
		t.Fatal("2^511 has no form")
	}
	if _, ok := written(minus(exact(power(-1, 511, 0)), big.NewInt(1))); ok {
		t.Fatal("-2^511 - 1 has no form")
	}
}

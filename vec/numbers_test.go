package vec_test

import (
	"math/big"
	"math/rand"

	"ninepin/api"
)

const half = api.One / 2

// edges are raw numbers about which signs, roundings and limits turn.
var edges = []api.Fix{api.MinFix, api.MinFix + 1, -api.One - 1, -api.One, -half, -1, 0, 1, half, api.One, api.One + 1, api.MaxFix - 1, api.MaxFix}

// plain are such of which most sums and products are within the limits.
var plain = []api.Fix{-3 * api.One, -api.One - 1, -half, -1, 0, 1, 2, half, api.One, 4 * api.One, 1 << 46}

// vectors are the same in each run: of edges, of plain numbers, of all lengths, and of numbers that are near each other.
func vectors() []api.Vec {
	source := rand.New(rand.NewSource(4))
	of := func(l []api.Fix) api.Vec {
		return api.Vec{X: l[source.Intn(len(l))], Y: l[source.Intn(len(l))], Z: l[source.Intn(len(l))]}
	}
	some := func() api.Fix { return api.Fix(source.Uint64()) >> source.Intn(64) }
	l := []api.Vec{{}, {X: 1}, {Y: -1}, {Z: api.One}, {X: api.MaxFix, Y: api.MaxFix, Z: api.MaxFix}, {X: api.MinFix, Y: api.MinFix, Z: api.MinFix}, {X: api.MinFix}, {Y: api.MaxFix, Z: api.MinFix}}
	for range 50 {
		size := some()
		l = append(l, of(edges), of(plain), api.Vec{X: some(), Y: some(), Z: some()}, api.Vec{X: size, Y: -size, Z: size + 1})
	}
	return l
}

// each goes over the places of a vector's numbers in its list.
func each(do func(i int)) {
	for i := range 3 {
		do(i)
	}
}

func list(a api.Vec) [3]api.Fix { return [3]api.Fix{a.X, a.Y, a.Z} }

func raw(a api.Fix) *big.Int { return big.NewInt(int64(a)) }

func power(n uint) *big.Int { return new(big.Int).Lsh(big.NewInt(1), n) }

func plus(a, b *big.Int) *big.Int { return new(big.Int).Add(a, b) }

func minus(a, b *big.Int) *big.Int { return new(big.Int).Sub(a, b) }

func times(a, b *big.Int) *big.Int { return new(big.Int).Mul(a, b) }

func squared(a *big.Int) *big.Int { return times(a, a) }

// within is the number of a raw one that need not fit.
func within(n *big.Int) api.Fix {
	if n.IsInt64() {
		return api.Fix(n.Int64())
	}
	if n.Sign() < 0 {
		return api.MinFix
	}
	return api.MaxFix
}

// brought is the number of a product, which has 64 bits behind the point: Div by a number above 0 goes down.
func brought(n *big.Int) api.Fix { return within(new(big.Int).Div(n, power(32))) }

// square is the exact one, with 64 bits behind the point.
func square(a api.Vec) *big.Int {
	all := new(big.Int)
	for _, n := range list(a) {
		all.Add(all, squared(raw(n)))
	}
	return all
}

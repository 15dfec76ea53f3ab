package fix_test

import (
	"math"
	"math/big"
	"math/rand"
	"slices"

	"ninepin/api"
	"ninepin/wide"
)

// edges are raw numbers about which signs, roundings and limits turn.
func edges() []api.Fix {
	l := []api.Fix{api.MinFix, api.MinFix + 1, api.MinFix + api.One, api.MaxFix - api.One, api.MaxFix - 1, api.MaxFix}
	for n := api.Fix(-5); n <= 5; n++ {
		l = append(l, n, n*api.One)
	}
	for _, bit := range []int{15, 16, 31, 32, 33, 47, 48, 61, 62} {
		for more := api.Fix(-1); more <= 1; more++ {
			l = append(l, 1<<bit+more, -1<<bit+more)
		}
	}
	return l
}

// numbers are the edges, and numbers of all lengths, the same in each run, in rising order.
func numbers() []api.Fix {
	source := rand.New(rand.NewSource(2))
	l := edges()
	for range 80 {
		l = append(l, api.Fix(source.Uint64())>>source.Intn(64))
	}
	slices.Sort(l)
	return slices.Compact(l)
}

// wides are numbers of 512 bits, those about the limits of a number at each shift among them.
func wides() []api.Wide {
	least := api.Wide{L: [8]uint64{7: 1 << 63}}
	l := []api.Wide{least, wide.Shr(least, 1)}
	for _, n := range []int64{0, 1, -1, 5, -5, math.MaxInt64, math.MinInt64, 1<<31 - 1, 1 << 31, -1 << 31, -1<<31 - 1} {
		l = append(l, wide.Of(n))
	}
	for _, bit := range []int{32, 62, 63, 64, 95, 127, 300, 478, 479, 510} {
		for sign := int64(-1); sign <= 1; sign += 2 {
			for more := int64(-1); more <= 1; more++ {
				power, _ := wide.Shl(wide.Of(sign), bit)
				n, _ := wide.Add(power, wide.Of(more))
				l = append(l, n)
			}
		}
	}
	source := rand.New(rand.NewSource(3))
	for range 40 {
		var n api.Wide
		for i := range n.L {
			n.L[i] = source.Uint64()
		}
		l = append(l, wide.Shr(n, source.Intn(512)))
	}
	return l
}

func raw(a api.Fix) *big.Int { return big.NewInt(int64(a)) }

func power(n uint) *big.Int { return new(big.Int).Lsh(big.NewInt(1), n) }

func times(a, b *big.Int) *big.Int { return new(big.Int).Mul(a, b) }

// exact reads limbs as two's complement.
func exact(a api.Wide) *big.Int {
	n := big.NewInt(int64(a.L[7]))
	for i := 6; i >= 0; i-- {
		n.Add(n.Lsh(n, 64), new(big.Int).SetUint64(a.L[i]))
	}
	return n
}

// below is n by d, rounded down; above is it rounded up.
func below(n, d *big.Int) *big.Int {
	if d.Sign() < 0 {
		n, d = new(big.Int).Neg(n), new(big.Int).Neg(d)
	}
	return new(big.Int).Div(n, d)
}

func above(n, d *big.Int) *big.Int {
	floor := below(new(big.Int).Neg(n), d)
	return floor.Neg(floor)
}

// within is the number of a raw one that need not fit.
func within(n *big.Int) api.Fix {
	if n.IsInt64() {
		return api.Fix(n.Int64())
	}
	if n.Sign() < 0 {
		return api.MinFix
	}
	return api.MaxFix
}

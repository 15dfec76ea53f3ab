package wide_test

import (
	"math"
	"math/big"
	"math/rand"
	"testing"

	"ninepin/api"
	"ninepin/wide"
)

var (
	least    = api.Wide{L: [8]uint64{7: 1 << 63}}
	greatest = api.Wide{L: [8]uint64{max64, max64, max64, max64, max64, max64, max64, max64 >> 1}}
)

const max64 = math.MaxUint64

// exact reads limbs as two's complement, without the package that is tested.
func exact(a api.Wide) *big.Int {
	n := new(big.Int)
	for i := 7; i >= 0; i-- {
		n.Lsh(n, 64)
		n.Or(n, new(big.Int).SetUint64(a.L[i]))
	}
	if a.L[7]>>63 == 1 {
		n.Sub(n, new(big.Int).Lsh(big.NewInt(1), 512))
	}
	return n
}

// written is the form of an integer, and whether it has one.
func written(n *big.Int) (api.Wide, bool) {
	end := new(big.Int).Lsh(big.NewInt(1), 511)
	if n.Cmp(end) >= 0 || n.Cmp(new(big.Int).Neg(end)) < 0 {
		return api.Wide{}, false
	}
	rest := new(big.Int).Mod(n, new(big.Int).Lsh(big.NewInt(1), 512))
	var a api.Wide
	for i := range a.L {
		a.L[i] = new(big.Int).And(rest, new(big.Int).SetUint64(max64)).Uint64()
		rest.Rsh(rest, 64)
	}
	return a, true
}

// power is sign times 2^n, and more.
func power(sign int64, n uint, more int64) api.Wide {
	p := new(big.Int).Lsh(big.NewInt(sign), n)
	a, ok := written(p.Add(p, big.NewInt(more)))
	if !ok {
		panic("a test's number does not fit")
	}
	return a
}

// edges are numbers about which carries, signs and limits turn.
func edges() []api.Wide {
	l := []api.Wide{least, greatest}
	for n := int64(-10); n <= 10; n++ {
		l = append(l, wide.Of(n))
	}
	for _, n := range []int64{math.MinInt64, math.MinInt64 + 1, math.MaxInt64 - 1, math.MaxInt64} {
		l = append(l, wide.Of(n))
	}
	for _, n := range []uint{31, 32, 63, 64, 65, 127, 128, 192, 255, 256, 257, 319, 320, 384, 447, 448, 509, 510} {
		for more := int64(-1); more <= 1; more++ {
			l = append(l, power(1, n, more), power(-1, n, more))
		}
	}
	return append(l, power(-1, 511, 1), power(-1, 511, 2), power(1, 510, 12345))
}

// mixed are numbers of all lengths, the same in each run; many of their limbs are 0, all ones, or a lone top bit.
func mixed(seed int64, n int) []api.Wide {
	source := rand.New(rand.NewSource(seed))
	l := make([]api.Wide, n)
	for i := range l {
		var a api.Wide
		for j := range 1 + source.Intn(8) {
			switch source.Intn(7) {
			case 0:
				a.L[j] = 0
			case 1:
				a.L[j] = max64
			case 2:
				a.L[j] = 1 << 63
			default:
				a.L[j] = source.Uint64() >> source.Intn(64)
			}
		}
		if source.Intn(2) == 0 {
			a, _ = written(new(big.Int).Not(exact(a)))
		}
		l[i] = a
	}
	return l
}

func numbers() []api.Wide { return append(edges(), mixed(1, 100)...) }

// same tells whether an answer is what an integer asks: its form and true, or 0 and false.
func same(got api.Wide, ok bool, want *big.Int) bool {
	form, fits := written(want)
	return got == form && ok == fits
}

func TestFormsOfTheTestsThemselves(t *testing.T) {
	if exact(api.Wide{L: [8]uint64{5, 1}}).String() != "18446744073709551621" || exact(least).BitLen() != 512 || exact(least).Sign() != -1 {
		t.Fatal("exact")
	}
	for _, a := range numbers() {
		if back, ok := written(exact(a)); !ok || back != a {
			t.Fatal("written", a)
		}
	}
	if _, ok := written(new(big.Int).Add(exact(greatest), big.NewInt(1))); ok {
		t.Fatal("2^511 has no form")
	}
	if _, ok := written(new(big.Int).Sub(exact(least), big.NewInt(1))); ok {
		t.Fatal("-2^511 - 1 has no form")
	}
}

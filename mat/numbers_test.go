package mat_test

import (
	"math/big"
	"math/rand"

	"ninepin/api"
)

const (
	one   = api.One
	half  = api.One / 2
	most  = api.MaxFix
	least = api.MinFix
)

// edges are raw numbers about which signs, roundings and limits turn.
var edges = []api.Fix{least, least + 1, -one - 1, -one, -half, -1, 0, 1, half, one, one + 1, most - 1, most}

// plain are such of which most sums and products are within the limits.
var plain = []api.Fix{-3 * one, -one - 1, -half, -1, 0, 1, 2, half, one, 4 * one, 1 << 40}

// whole are such of which products are not rounded.
var whole = []api.Fix{-7 * one, -3 * one, -one, 0, one, 2 * one, 5 * one, 6 * one}

func by(x, y, z api.Fix) api.Vec { return api.Vec{X: x, Y: y, Z: z} }

func of(rows ...api.Vec) api.Mat { return api.Mat{R: [3]api.Vec(rows)} }

// maker makes matrices and vectors, the same ones in each run.
type maker struct{ *rand.Rand }

func (m maker) some() api.Fix { return api.Fix(m.Uint64()) >> m.Intn(64) }

func (m maker) pick(l []api.Fix) api.Vec {
	return by(l[m.Intn(len(l))], l[m.Intn(len(l))], l[m.Intn(len(l))])
}

// near has a row that differs from another one by little, so a determinant that is small beside its parts.
func (m maker) near() api.Mat {
	a, b := by(m.some(), m.some(), m.some()), by(m.some(), m.some(), m.some())
	return of(a, b, by(a.X^1, a.Y, a.Z))
}

// matrices are of edges, of plain and of whole numbers, of all lengths, and such as are all but flat.
func matrices() []api.Mat {
	m := maker{rand.New(rand.NewSource(5))}
	l := append(flat(), of(by(one, 0, 0), by(0, one, 0), by(0, 0, one)), of(by(0, -one, 0), by(one, 0, 0), by(0, 0, one)), of(by(1, 0, 0), by(0, 1, 0), by(0, 0, 1)))
	for range 30 {
		l = append(l, of(m.pick(edges), m.pick(edges), m.pick(edges)), of(m.pick(plain), m.pick(plain), m.pick(plain)), of(m.pick(whole), m.pick(whole), m.pick(whole)), m.near())
		l = append(l, of(by(m.some(), m.some(), m.some()), by(m.some(), m.some(), m.some()), by(m.some(), m.some(), m.some())))
	}
	return l
}

// flat are matrices whose exact determinant is 0.
func flat() []api.Mat {
	a, b, c := by(most, least, 1), by(least, most-1, -one), by(one/3, -7, 1<<50)
	return []api.Mat{
		{},
		of(a, a, c),
		of(a, c, a),
		of(c, b, b),
		of(a, b, api.Vec{}),
		of(by(3, 5, 7), by(-6, -10, -14), b),
		of(by(1, 2, 3), by(4, 5, 6), by(7, 8, 9)),
		of(by(most, 0, most), by(least, 0, 5), by(1, 0, one)),
		of(by(least, least, least), by(most, most, most), by(1, 1, 2)),
	}
}

func vectors() []api.Vec {
	m := maker{rand.New(rand.NewSource(6))}
	l := []api.Vec{{}, by(1, 0, 0), by(0, -1, 0), by(one, -one, half), by(most, most, most), by(least, least, least), by(least, most, 1)}
	for range 8 {
		l = append(l, m.pick(edges), m.pick(plain), by(m.some(), m.some(), m.some()))
	}
	return l
}

// each goes over the places of a matrix.
func each(do func(i, j int)) {
	for i := range 3 {
		for j := range 3 {
			do(i, j)
		}
	}
}

func list(a api.Vec) [3]api.Fix { return [3]api.Fix{a.X, a.Y, a.Z} }

func table(m api.Mat) [3][3]api.Fix { return [3][3]api.Fix{list(m.R[0]), list(m.R[1]), list(m.R[2])} }

func raw(a api.Fix) *big.Int { return big.NewInt(int64(a)) }

// product is the exact one of raw numbers.
func product(l ...api.Fix) *big.Int {
	all := big.NewInt(1)
	for _, n := range l {
		all.Mul(all, raw(n))
	}
	return all
}

// within is the number of a raw one that need not fit.
func within(n *big.Int) api.Fix {
	if n.IsInt64() {
		return api.Fix(n.Int64())
	}
	if n.Sign() < 0 {
		return least
	}
	return most
}

// brought is the number of an exact one that has so many bits behind the point: Rsh goes down.
func brought(n *big.Int, behind uint) api.Fix { return within(new(big.Int).Rsh(n, behind-32)) }

// broughtRatio is the number of an exact ratio: Div by what is above 0, as each Denom is, goes down.
func broughtRatio(n *big.Rat) api.Fix {
	return within(new(big.Int).Div(new(big.Int).Lsh(n.Num(), 32), n.Denom()))
}

// determinant is the sum over all orders of the columns, with 96 bits behind the point.
func determinant(m api.Mat) *big.Int {
	t, all := table(m), new(big.Int)
	for _, o := range [][3]int{{0, 1, 2}, {1, 2, 0}, {2, 0, 1}} {
		all.Add(all, product(t[0][o[0]], t[1][o[1]], t[2][o[2]]))
		all.Sub(all, product(t[0][o[2]], t[1][o[1]], t[2][o[0]]))
	}
	return all
}

// solved takes the matrix to ones from corner to corner, row by row, and all columns of right along; false if it is flat.
func solved(m api.Mat, right [3][]*big.Rat) ([3][]*big.Rat, bool) {
	var l [3][]*big.Rat
	for i, row := range table(m) {
		for _, n := range row {
			l[i] = append(l[i], new(big.Rat).SetInt(raw(n)))
		}
		l[i] = append(l[i], right[i]...)
	}
	for k := range l {
		at := k
		for at < 3 && l[at][k].Sign() == 0 {
			at++
		}
		if at == 3 {
			return l, false
		}
		l[k], l[at] = l[at], l[k]
		first := new(big.Rat).Set(l[k][k])
		for j := range l[k] {
			l[k][j] = new(big.Rat).Quo(l[k][j], first)
		}
		for i := range l {
			part := new(big.Rat).Set(l[i][k])
			for j := range l[i] {
				if i != k {
					l[i][j] = new(big.Rat).Sub(l[i][j], new(big.Rat).Mul(part, l[k][j]))
				}
			}
		}
	}
	return [3][]*big.Rat{l[0][3:], l[1][3:], l[2][3:]}, true
}

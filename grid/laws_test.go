package grid_test

import (
	"math/big"
	"slices"
	"testing"

	"ninepin/api"
	"ninepin/grid"
)

// opposite is the number less than 0 by as much; it fits.
func opposite(a api.Wide) api.Wide { return sure(new(big.Int).Neg(exact(a))) }

// P6.5

func TestSquaresOfProducts(t *testing.T) {
	for _, a := range points() {
		for _, b := range points() {
			n, d := three(grid.Cross(a, b)), exact(grid.Dot(a, b))
			together := plus(dot(n, n), times(d, d))
			if together.Cmp(times(exact(grid.Dot(a, a)), exact(grid.Dot(b, b)))) != 0 {
				t.Fatal("squares", a, b)
			}
		}
	}
}

func TestCrossIsLevel(t *testing.T) {
	for _, a := range points() {
		for _, b := range points() {
			n := grid.Cross(a, b)
			for _, p := range []api.Point{a, b} {
				if got, ok := grid.Along(n, p); got != (api.Wide{}) || !ok {
					t.Fatal("Cross is not level", a, b, p, got, ok)
				}
			}
			if grid.Cross(b, a) != by(opposite(n.X), opposite(n.Y), opposite(n.Z)) {
				t.Fatal("Cross turned over", a, b)
			}
			if grid.Dot(a, b) != grid.Dot(b, a) {
				t.Fatal("Dot turned over", a, b)
			}
		}
	}
}

// P6.6

func TestDetIsAlong(t *testing.T) {
	l := points()
	for i, a := range l {
		for j, b := range l {
			c := l[(5*i+3*j)%len(l)]
			want := grid.Det(a, b, c)
			for _, turn := range [][3]api.Point{{a, b, c}, {b, c, a}, {c, a, b}} {
				got, ok := grid.Along(grid.Cross(turn[0], turn[1]), turn[2])
				if got != want || !ok {
					t.Fatal("Det by Along", a, b, c, turn, got, ok)
				}
			}
			for _, swap := range [][3]api.Point{{b, a, c}, {a, c, b}, {c, b, a}} {
				if grid.Det(swap[0], swap[1], swap[2]) != opposite(want) {
					t.Fatal("Det with two exchanged", a, b, c, swap)
				}
			}
			for _, same := range [][3]api.Point{{a, a, b}, {a, b, a}, {b, a, a}} {
				if got := grid.Det(same[0], same[1], same[2]); got != (api.Wide{}) {
					t.Fatal("Det with two the same", a, b, got)
				}
			}
		}
	}
}

// P6.7

func TestRoundOfValue(t *testing.T) {
	told := 0
	for _, x := range within {
		for _, y := range within {
			for _, z := range within {
				p := at(x, y, z)
				if got, e := grid.Round(grid.Value(p)); got != p || e != api.OK {
					t.Fatal("Round of Value", p, got, e)
				}
			}
		}
	}
	for _, p := range points() {
		if !mayBe(p) {
			continue
		}
		told++
		if got, e := grid.Round(grid.Value(p)); got != p || e != api.OK {
			t.Error("Round of Value", p, got, e)
		}
	}
	if told < 20 {
		t.Error("too few may be to tell", told)
	}
}

func TestRoundIsNearAndKeepsTheOrder(t *testing.T) {
	l := middles()
	slices.Sort(l)
	last, told := int64(-end), 0
	for _, raw := range l {
		p, e := grid.Round(api.Vec{Z: raw})
		if e != api.OK {
			continue
		}
		told++
		if off := p.Z<<16 - int64(raw); off < -1<<15 || off > 1<<15 {
			t.Error("Round is far off", int64(raw), p)
		}
		if p.Z < last {
			t.Error("Round turns the order", int64(raw), p, last)
		}
		last = p.Z
	}
	if told < 50 || last != end {
		t.Error("too few are within to tell", told, last)
	}
}

// P6.8

func TestPrimeOfPrime(t *testing.T) {
	told := 0
	for _, n := range spans() {
		p, ok := grid.Prime(n)
		if !ok {
			continue
		}
		told++
		if again, ok := grid.Prime(p); again != p || !ok {
			t.Error("Prime of Prime", n, p, again, ok)
		}
		if !isMultiple(n, p) {
			t.Error("no integer above 0 makes the span of its primitive one", n, p)
		}
	}
	if told < 500 {
		t.Error("too few have a primitive one to tell", told)
	}
}

// isMultiple: is n the same integer above 0 times each number of p?
func isMultiple(n, p api.Span) bool {
	parts := three(p)
	for i, part := range parts {
		if part.Sign() == 0 {
			continue
		}
		k := new(big.Int).Quo(three(n)[i], part)
		made := by(sure(times(k, parts[0])), sure(times(k, parts[1])), sure(times(k, parts[2])))
		return k.Sign() > 0 && made == n
	}
	return false
}

func TestPrimeOfMultiples(t *testing.T) {
	for _, a := range points() {
		for _, b := range points() {
			n := grid.Cross(a, b)
			p, ok := grid.Prime(n)
			if ok != (n != api.Span{}) {
				t.Fatal("Prime of a cross product", a, b, p, ok)
			}
			for _, k := range []int64{2, 3, 1 << 40, most} {
				more := by(product(n.X, k), product(n.Y, k), product(n.Z, k))
				if got, fine := grid.Prime(more); got != p || fine != ok {
					t.Fatal("Prime of a multiple", a, b, k, got, p)
				}
			}
		}
	}
}

func product(a api.Wide, k int64) api.Wide { return sure(times(exact(a), big.NewInt(k))) }

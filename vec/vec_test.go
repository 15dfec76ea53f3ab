package vec_test

import (
	"math/big"
	"testing"

	"ninepin/api"
	"ninepin/vec"
)

const (
	one   = api.One
	most  = api.MaxFix
	least = api.MinFix
)

// P3.1

func TestAddSubScaleOfAllPairs(t *testing.T) {
	l := vectors()
	for _, a := range l {
		for _, b := range l {
			x, y, k := list(a), list(b), b.X
			sum, difference, scaled := list(vec.Add(a, b)), list(vec.Sub(a, b)), list(vec.Scale(a, k))
			each(func(i int) {
				if want := within(plus(raw(x[i]), raw(y[i]))); sum[i] != want {
					t.Fatal("Add", a, b, sum, want)
				}
				if want := within(minus(raw(x[i]), raw(y[i]))); difference[i] != want {
					t.Fatal("Sub", a, b, difference, want)
				}
				if want := brought(times(raw(x[i]), raw(k))); scaled[i] != want {
					t.Fatal("Scale", a, k, scaled, want)
				}
			})
		}
	}
}

func TestAddSubScaleAboutTheLimits(t *testing.T) {
	if got := vec.Add(api.Vec{X: most, Y: least, Z: most - 1}, api.Vec{X: 1, Y: -1, Z: 1}); got != (api.Vec{X: most, Y: least, Z: most}) {
		t.Error("Add", got)
	}
	if got := vec.Sub(api.Vec{X: least, Y: -1, Z: 0}, api.Vec{X: 1, Y: least, Z: least}); got != (api.Vec{X: least, Y: most, Z: most}) {
		t.Error("Sub", got)
	}
	if got := vec.Scale(api.Vec{X: 1, Y: -1, Z: 3 * one}, half); got != (api.Vec{X: 0, Y: -1, Z: 3 * half}) {
		t.Error("Scale by a half", got)
	}
	if got := vec.Scale(api.Vec{X: least, Y: most, Z: one}, -one); got != (api.Vec{X: most, Y: -most, Z: -one}) {
		t.Error("Scale by -1", got)
	}
	if got := vec.Scale(api.Vec{X: most, Y: least, Z: most}, one+1); got != (api.Vec{X: most, Y: least, Z: most}) {
		t.Error("Scale beyond the limits", got)
	}
	if got := vec.Scale(api.Vec{X: most, Y: least, Z: 1}, 0); got != (api.Vec{}) {
		t.Error("Scale by 0", got)
	}
}

// P3.2

func TestDotCrossOfAllPairs(t *testing.T) {
	l := vectors()
	for _, a := range l {
		for _, b := range l {
			x, y := list(a), list(b)
			dot, cross := new(big.Int), list(vec.Cross(a, b))
			each(func(i int) {
				dot.Add(dot, times(raw(x[i]), raw(y[i])))
				j, k := (i+1)%3, (i+2)%3
				want := brought(minus(times(raw(x[j]), raw(y[k])), times(raw(x[k]), raw(y[j]))))
				if cross[i] != want {
					t.Fatal("Cross", a, b, cross, want)
				}
			})
			if got, want := vec.Dot(a, b), brought(dot); got != want {
				t.Fatal("Dot", a, b, got, want)
			}
		}
	}
}

func TestDotExamples(t *testing.T) {
	for _, c := range []struct {
		a, b api.Vec
		want api.Fix
	}{
		{api.Vec{X: 1, Y: 1}, api.Vec{X: 1, Y: -1}, 0},
		{api.Vec{X: 1}, api.Vec{X: -1}, -1},
		{api.Vec{X: 1}, api.Vec{X: 1}, 0},
		{api.Vec{X: one, Y: 2 * one, Z: 3 * one}, api.Vec{X: 4 * one, Y: 5 * one, Z: -6 * one}, -4 * one},
		{api.Vec{}, api.Vec{X: least, Y: most, Z: least}, 0},
		// Halves of the last bit count together, though each alone is rounded to nothing.
		{api.Vec{X: 1, Y: 1}, api.Vec{X: half, Y: half}, 1},
		{api.Vec{X: 1, Y: 1, Z: 1}, api.Vec{X: -half, Y: -half, Z: -half}, -2},
		// The parts are out of bounds, the sum is not.
		{api.Vec{X: most, Y: most}, api.Vec{X: most, Y: -most}, 0},
		{api.Vec{X: most, Y: most, Z: one}, api.Vec{X: 2 * one, Y: -2 * one, Z: 7}, 7},
		{api.Vec{X: least, Y: least, Z: least}, api.Vec{X: least, Y: least, Z: least}, most},
		{api.Vec{X: least, Y: least, Z: least}, api.Vec{X: most, Y: most, Z: most}, least},
		{api.Vec{X: least, Y: least, Z: most}, api.Vec{X: least, Y: most, Z: one}, most},
		// What just fits, and what just does not.
		{api.Vec{X: most, Y: 1}, api.Vec{X: one, Y: one - 1}, most},
		{api.Vec{X: most, Y: 1}, api.Vec{X: one, Y: one}, most},
		{api.Vec{X: most, Y: 1}, api.Vec{X: one, Y: -1}, most - 1},
		{api.Vec{X: least, Y: 1}, api.Vec{X: one, Y: one - 1}, least},
		{api.Vec{X: least, Y: 1}, api.Vec{X: one, Y: one}, least + 1},
		{api.Vec{X: least, Y: 1}, api.Vec{X: one, Y: -1}, least},
	} {
		if got := vec.Dot(c.a, c.b); got != c.want {
			t.Error("Dot", c.a, c.b, got, c.want)
		}
	}
}

func TestCrossExamples(t *testing.T) {
	x, y, z := api.Vec{X: one}, api.Vec{Y: one}, api.Vec{Z: one}
	if vec.Cross(x, y) != z || vec.Cross(y, z) != x || vec.Cross(z, x) != y || vec.Cross(y, x) != (api.Vec{Z: -one}) || vec.Cross(z, y) != (api.Vec{X: -one}) || vec.Cross(x, z) != (api.Vec{Y: -one}) {
		t.Error("Cross of the axes")
	}
	for _, c := range []struct{ a, b, want api.Vec }{
		{api.Vec{X: one, Y: 2 * one, Z: 3 * one}, api.Vec{X: 4 * one, Y: 5 * one, Z: 6 * one}, api.Vec{X: -3 * one, Y: 6 * one, Z: -3 * one}},
		{api.Vec{X: 1}, api.Vec{Y: 1, Z: 1}, api.Vec{Y: -1}},
		{api.Vec{X: 1, Y: -1}, api.Vec{X: half, Y: half}, api.Vec{Z: 1}},
		// The parts are out of bounds, the difference is not.
		{api.Vec{Y: most, Z: most}, api.Vec{Y: most, Z: most - 2}, api.Vec{X: -one}},
		{api.Vec{Y: most, Z: most}, api.Vec{Y: 2 * one, Z: 2*one + 1}, api.Vec{X: most >> 32}},
		{api.Vec{X: least, Y: least}, api.Vec{X: least, Y: least}, api.Vec{}},
		{api.Vec{X: least, Y: least, Z: least}, api.Vec{X: most, Y: least, Z: most}, api.Vec{X: least, Z: most}},
		{api.Vec{X: least}, api.Vec{Y: -one}, api.Vec{Z: most}},
		{api.Vec{X: least}, api.Vec{Y: one}, api.Vec{Z: least}},
	} {
		if got := vec.Cross(c.a, c.b); got != c.want {
			t.Error("Cross", c.a, c.b, got, c.want)
		}
	}
}

// P3.3

func TestLenOfAll(t *testing.T) {
	for _, a := range vectors() {
		whole := square(a)
		floor := new(big.Int).Sqrt(whole)
		ceiling := new(big.Int).Set(floor)
		if squared(floor).Cmp(whole) != 0 {
			ceiling.Add(ceiling, big.NewInt(1))
		}
		if vec.Len(a) != within(floor) || vec.LenUp(a) != within(ceiling) {
			t.Fatal("Len, LenUp", a, vec.Len(a), vec.LenUp(a), floor, ceiling)
		}
	}
}

func TestLenExamples(t *testing.T) {
	for _, c := range []struct {
		a        api.Vec
		down, up api.Fix
	}{
		{api.Vec{X: 3 * one, Y: 4 * one}, 5 * one, 5 * one},
		{api.Vec{X: -2 * one, Y: one, Z: -2 * one}, 3 * one, 3 * one},
		{api.Vec{}, 0, 0},
		{api.Vec{Z: -1}, 1, 1},
		{api.Vec{X: 1, Y: 1}, 1, 2},
		{api.Vec{X: 1, Y: 1, Z: 1}, 1, 2},
		{api.Vec{X: 2, Y: 3, Z: 6}, 7, 7},
		// The square is beyond all numbers, the length is not.
		{api.Vec{X: most}, most, most},
		{api.Vec{Y: -most}, most, most},
		{api.Vec{X: most - 1, Z: 1}, most - 1, most},
		// Just beyond the greatest number: rounded down it is one, rounded up it is brought in.
		{api.Vec{X: most, Y: 1}, most, most},
		{api.Vec{X: least}, most, most},
		{api.Vec{X: least, Y: least, Z: least}, most, most},
		{api.Vec{X: most, Y: most, Z: most}, most, most},
	} {
		if down, up := vec.Len(c.a), vec.LenUp(c.a); down != c.down || up != c.up {
			t.Error("Len, LenUp", c.a, down, up)
		}
	}
}

// P3.4

// signedSquare keeps the order of numbers below 0 too.
func signedSquare(n *big.Int) *big.Int { return times(n, new(big.Int).Abs(n)) }

// checkUnit asks of each number u that u times the length is not above the vector's number, and that of the next one is; both sides squared, as the length is no fraction.
func checkUnit(t *testing.T, a api.Vec) {
	t.Helper()
	u, ok := vec.Unit(a)
	if !ok {
		t.Fatal("Unit of one that is not zero", a)
	}
	whole, x, y := square(a), list(a), list(u)
	each(func(i int) {
		number := signedSquare(times(raw(x[i]), power(32)))
		floor := times(signedSquare(raw(y[i])), whole)
		next := times(signedSquare(plus(raw(y[i]), big.NewInt(1))), whole)
		if floor.Cmp(number) > 0 || next.Cmp(number) <= 0 {
			t.Fatal("Unit", a, u, i)
		}
	})
}

func TestUnitOfAll(t *testing.T) {
	for _, a := range vectors() {
		if a != (api.Vec{}) {
			checkUnit(t, a)
		}
	}
	for _, x := range edges {
		for _, y := range edges {
			for _, z := range edges {
				if a := (api.Vec{X: x, Y: y, Z: z}); a != (api.Vec{}) {
					checkUnit(t, a)
				}
			}
		}
	}
}

func TestUnitExamples(t *testing.T) {
	for _, c := range []struct{ a, want api.Vec }{
		{api.Vec{Y: -7}, api.Vec{Y: -one}},
		{api.Vec{X: 1}, api.Vec{X: one}},
		{api.Vec{Z: least}, api.Vec{Z: -one}},
		{api.Vec{Z: most}, api.Vec{Z: one}},
		{api.Vec{X: 3, Y: 4}, api.Vec{X: 2576980377, Y: 3435973836}},
		{api.Vec{X: -3, Y: -4}, api.Vec{X: -2576980378, Y: -3435973837}},
		{api.Vec{X: 3 * one, Z: 4 * one}, api.Vec{X: 2576980377, Z: 3435973836}},
		// The root of a half, by a length that is rounded to 1 or to 2.
		{api.Vec{X: 1, Y: 1}, api.Vec{X: 3037000499, Y: 3037000499}},
		{api.Vec{X: -1, Z: 1}, api.Vec{X: -3037000500, Z: 3037000499}},
		{api.Vec{X: least, Y: least}, api.Vec{X: -3037000500, Y: -3037000500}},
		// A number far less than the length is still not 0, below 0.
		{api.Vec{X: most, Y: 1, Z: -1}, api.Vec{X: one - 1, Z: -1}},
		{api.Vec{X: least, Y: -1, Z: 1}, api.Vec{X: -one, Y: -1}},
	} {
		if got, ok := vec.Unit(c.a); !ok || got != c.want {
			t.Error("Unit", c.a, got, ok)
		}
	}
	if got, ok := vec.Unit(api.Vec{}); ok || got != (api.Vec{}) {
		t.Error("Unit of zero", got, ok)
	}
}

// P3.5

// apart is the square of the exact difference, with 64 bits behind the point.
func apart(a, b api.Vec) *big.Int {
	x, y, all := list(a), list(b), new(big.Int)
	each(func(i int) { all.Add(all, squared(minus(raw(x[i]), raw(y[i])))) })
	return all
}

func TestNearOfAllPairs(t *testing.T) {
	l := vectors()
	for _, a := range l {
		for _, b := range l {
			gap := apart(a, b)
			edge := within(new(big.Int).Sqrt(gap))
			for _, r := range []api.Fix{edge - 1, edge, edge + 1, 0, -1, one, most, least, -edge} {
				want := r >= 0 && gap.Cmp(squared(raw(r))) <= 0
				if got := vec.Near(a, b, r); got != want {
					t.Fatal("Near", a, b, r, got)
				}
			}
		}
	}
}

func TestNearExamples(t *testing.T) {
	for _, a := range vectors() {
		if !vec.Near(a, a, 0) || vec.Near(a, a, -1) || vec.Near(a, a, least) || !vec.Near(a, a, most) {
			t.Error("Near itself", a)
		}
	}
	for _, c := range []struct {
		a, b api.Vec
		r    api.Fix
		want bool
	}{
		{api.Vec{X: 3 * one, Y: 4 * one}, api.Vec{}, 5 * one, true},
		{api.Vec{X: 3 * one, Y: 4 * one}, api.Vec{}, 5*one - 1, false},
		{api.Vec{X: 3 * one, Y: 4 * one}, api.Vec{}, -5 * one, false},
		{api.Vec{X: 1, Y: 1}, api.Vec{}, 1, false},
		{api.Vec{X: 1, Y: 1}, api.Vec{}, 2, true},
		// The difference itself is no number.
		{api.Vec{X: least}, api.Vec{X: most}, most, false},
		{api.Vec{X: most}, api.Vec{X: least}, most, false},
		{api.Vec{X: least}, api.Vec{}, most, false},
		{api.Vec{X: least}, api.Vec{X: -1}, most, true},
		{api.Vec{X: least}, api.Vec{X: -1}, most - 1, false},
		{api.Vec{X: least}, api.Vec{X: -1, Y: 1}, most, false},
		{api.Vec{X: least, Y: least, Z: least}, api.Vec{X: most, Y: most, Z: most}, most, false},
	} {
		if got := vec.Near(c.a, c.b, c.r); got != c.want {
			t.Error("Near", c, got)
		}
	}
}

func TestMoveOfAllPairs(t *testing.T) {
	l := vectors()
	for _, a := range l {
		for _, v := range l {
			for _, k := range []api.Fix{least, -one, -half, -1, 0, 1, one / 3, one, most, a.Y} {
				x, y, moved := list(a), list(v), list(vec.Move(a, v, k))
				each(func(i int) {
					want := brought(plus(times(raw(x[i]), power(32)), times(raw(y[i]), raw(k))))
					if moved[i] != want {
						t.Fatal("Move", a, v, k, moved, want)
					}
				})
			}
		}
	}
}

func TestMoveExamples(t *testing.T) {
	for _, c := range []struct {
		a, v api.Vec
		t    api.Fix
		want api.Vec
	}{
		{api.Vec{X: 3 * one, Y: 4 * one}, api.Vec{X: 1}, -1, api.Vec{X: 3*one - 1, Y: 4 * one}},
		{api.Vec{X: one, Y: one, Z: one}, api.Vec{X: 2 * one, Y: -3 * one, Z: 1}, half, api.Vec{X: 2 * one, Y: -half, Z: one}},
		{api.Vec{X: 5, Y: -5}, api.Vec{X: most, Y: least, Z: most}, 0, api.Vec{X: 5, Y: -5}},
		// What is added is out of bounds, the sum is not; the second one just is.
		{api.Vec{X: least, Y: most, Z: least}, api.Vec{X: most, Y: least, Z: 1 << 62}, 2 * one, api.Vec{X: most - 1, Y: least, Z: 0}},
		// What just fits, and what just does not.
		{api.Vec{X: most, Y: most, Z: most}, api.Vec{X: 1, Y: -1, Z: 0}, half, api.Vec{X: most, Y: most - 1, Z: most}},
		{api.Vec{X: least, Y: least, Z: least}, api.Vec{X: 1, Y: -1, Z: 2}, half, api.Vec{X: least, Y: least, Z: least + 1}},
		{api.Vec{X: most, Y: least}, api.Vec{X: most, Y: least}, most, api.Vec{X: most, Y: least}},
	} {
		if got := vec.Move(c.a, c.v, c.t); got != c.want {
			t.Error("Move", c, got)
		}
	}
}

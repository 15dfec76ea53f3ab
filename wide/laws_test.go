package wide_test

import (
	"testing"

	"ninepin/api"
	"ninepin/wide"
)

// some are few enough for all their triples.
func some() []api.Wide {
	l := []api.Wide{least, greatest, power(1, 510, 0), power(-1, 510, 0), power(1, 255, 1), power(-1, 128, -1), power(1, 64, 0), power(1, 170, -1), power(-1, 169, 3)}
	for _, n := range []int64{0, 1, -1, 2, -3, 1 << 40} {
		l = append(l, wide.Of(n))
	}
	return append(l, mixed(2, 20)...)
}

// chain brackets to the left: (a f b) f c, and whether all of it fits.
func chain(f binary, a, b, c api.Wide) (api.Wide, bool) {
	ab, fits := f(a, b)
	abc, all := f(ab, c)
	return abc, fits && all
}

// P1.6

func TestRingOfPairs(t *testing.T) {
	l := numbers()
	for _, a := range l {
		for _, b := range l {
			for _, f := range []binary{wide.Add, wide.Mul} {
				one, fits := f(a, b)
				other, too := f(b, a)
				if one != other || fits != too {
					t.Fatal("order counts", exact(a), exact(b))
				}
			}
			if sum, ok := wide.Add(a, b); ok {
				if back, ok := wide.Sub(sum, b); !ok || back != a {
					t.Fatal("Sub does not undo Add", exact(a), exact(b))
				}
			}
		}
	}
}

func TestRingOfTriples(t *testing.T) {
	brackets, products := 0, 0
	l := some()
	for _, a := range l {
		for _, b := range l {
			for _, c := range l {
				for _, f := range []binary{wide.Add, wide.Mul} {
					left, ok := chain(f, a, b, c)
					right, too := chain(f, c, b, a)
					if ok && too {
						brackets++
						if left != right {
							t.Fatal("brackets count", exact(a), exact(b), exact(c))
						}
					}
				}
				products += distributes(t, a, b, c)
			}
		}
	}
	if brackets < 1000 || products < 1000 {
		t.Error("too few fit to tell", brackets, products)
	}
}

// distributes holds a (b + c) against a b + a c, and answers 1 where all of it fits.
func distributes(t *testing.T, a, b, c api.Wide) int {
	t.Helper()
	sum, fits1 := wide.Add(b, c)
	whole, fits2 := wide.Mul(a, sum)
	ab, fits3 := wide.Mul(a, b)
	ac, fits4 := wide.Mul(a, c)
	parts, fits5 := wide.Add(ab, ac)
	if !fits1 || !fits2 || !fits3 || !fits4 || !fits5 {
		return 0
	}
	if whole != parts {
		t.Fatal("a product of a sum", exact(a), exact(b), exact(c))
	}
	return 1
}

// P1.7

func TestWhatIsLeft(t *testing.T) {
	l := numbers()
	for _, a := range l {
		for _, b := range l {
			q, r, ok := wide.Div(a, b)
			if !ok {
				if b != (api.Wide{}) && (a != least || b != wide.Of(-1)) {
					t.Fatal("a quotient that fits", exact(a), exact(b))
				}
				continue
			}
			if r != (api.Wide{}) && wide.Sign(r) != wide.Sign(b) {
				t.Fatal("the sign of what is left", exact(a), exact(b), exact(r))
			}
			if exact(r).CmpAbs(exact(b)) >= 0 {
				t.Fatal("what is left is too far out", exact(a), exact(b), exact(r))
			}
			product, fits := wide.Mul(q, b)
			back, too := wide.Add(product, r)
			if fits && (!too || back != a) {
				t.Fatal("q b + r is not a", exact(a), exact(b), exact(q), exact(r))
			}
		}
	}
}

func TestShrIsDiv(t *testing.T) {
	for _, a := range numbers() {
		for n := range 511 {
			two, fits := wide.Shl(wide.Of(1), n)
			q, _, ok := wide.Div(a, two)
			if !fits || !ok || wide.Shr(a, n) != q {
				t.Fatal("Shr is not Div", exact(a), n)
			}
		}
	}
}

// P1.8

func TestOrderOfPairs(t *testing.T) {
	l := numbers()
	for _, a := range l {
		if wide.Cmp(a, a) != 0 {
			t.Fatal("not the same as itself", exact(a))
		}
		for _, b := range l {
			way := wide.Cmp(a, b)
			if (way == 0) != (a == b) || wide.Cmp(b, a) != -way {
				t.Fatal("Cmp both ways", exact(a), exact(b))
			}
			x, fits := wide.Neg(a)
			y, too := wide.Neg(b)
			if fits && too && wide.Cmp(x, y) != -way {
				t.Fatal("Neg does not turn", exact(a), exact(b))
			}
		}
	}
}

func TestOrderOfTriples(t *testing.T) {
	kept := 0
	l := some()
	for _, a := range l {
		for _, b := range l {
			for _, c := range l {
				way := wide.Cmp(a, b)
				if way < 0 && wide.Cmp(b, c) < 0 && wide.Cmp(a, c) >= 0 {
					t.Fatal("Cmp does not go on", exact(a), exact(b), exact(c))
				}
				x, fits := wide.Add(a, c)
				y, too := wide.Add(b, c)
				if fits && too {
					kept++
					if wide.Cmp(x, y) != way {
						t.Fatal("Add does not keep", exact(a), exact(b), exact(c))
					}
				}
			}
		}
	}
	if kept < 1000 {
		t.Error("too few fit to tell", kept)
	}
}

func TestOrderOfInts(t *testing.T) {
	for _, m := range someInts {
		for _, n := range someInts {
			want := 0
			if m < n {
				want = -1
			}
			if m > n {
				want = 1
			}
			if got := wide.Cmp(wide.Of(m), wide.Of(n)); got != want {
				t.Error("Cmp", m, n, got)
			}
		}
	}
}

package grid

import (
	"testing"

	"ninepin/api"
	"ninepin/wide"
)

// Who ranges may leave early: an iterator that goes on then panics.
func TestBesideEndsWhereItIsLeft(t *testing.T) {
	a := api.Span{X: wide.Of(1), Y: wide.Of(2), Z: wide.Of(3)}
	b := api.Span{X: wide.Of(4), Y: wide.Of(5), Z: wide.Of(6)}
	pairs := [3][2]api.Wide{{a.X, b.X}, {a.Y, b.Y}, {a.Z, b.Z}}
	for end := 1; end <= 3; end++ {
		told := 0
		for x, y := range beside(a, b) {
			if x != pairs[told][0] || y != pairs[told][1] {
				t.Error("beside", told, x, y)
			}
			if told++; told == end {
				break
			}
		}
		if told != end {
			t.Error("left at", end, "told", told)
		}
	}
}

package mat

import (
	"testing"

	"ninepin/api"
)

// Who ranges may leave early: an iterator that goes on then panics.
func TestRowsAndColumnsEndWhereTheyAreLeft(t *testing.T) {
	m := api.Mat{R: [size]api.Vec{{X: 1, Y: 2, Z: 3}, {X: 4, Y: 5, Z: 6}, {X: 7, Y: 8, Z: 9}}}
	told := 0
	for k, row := range rows(m) {
		if told++; k == 1 && row == m.R[1] {
			break
		}
	}
	for k, column := range columns(m) {
		if told++; k == 1 && column == (api.Vec{X: 2, Y: 5, Z: 8}) {
			break
		}
	}
	if told != 4 {
		t.Error(told)
	}
}

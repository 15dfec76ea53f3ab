package hull

import "slices"

// ordered puts a list in order, and keeps but the first one of those that are the same.
func ordered[T any](l []T, hold func(a, b T) int) []T {
	slices.SortStableFunc(l, hold)
	return slices.CompactFunc(l, func(a, b T) bool { return hold(a, b) == 0 })
}

// fromLeast is a row that goes round, from its least place on.
func fromLeast(row []int) []int {
	n, i := len(row), slices.Index(row, slices.Min(row))
	// The row stands twice behind itself; who adds to the answer is not to write over the rest of it.
	return slices.Concat(row, row)[i : i+n : i+n]
}

// edges are the pairs of places that stand side by side in a row that goes round.
func edges(row []int) [][2]int {
	all := make([][2]int, len(row))
	for i, k := range row {
		all[i] = [2]int{k, row[(i+1)%len(row)]}
	}
	return all
}

// Package row: rows, and their order.
package row

import (
	"cmp"

	"estuary/api"
)

// Good says whether a row may be: its numbers from -MaxTime to MaxTime.
func Good(r api.Row) (_ bool) {
	may := within(-api.MaxTime, api.MaxTime)
	return may(r.Key) && may(r.Time) && may(r.Value)
}

// Compare is -1, 0 or 1: by key, time, value.
func Compare(a, b api.Row) (_ int) {
	return cmp.Or(
		cmp.Compare(a.Key, b.Key),
		cmp.Compare(a.Time, b.Time),
		cmp.Compare(a.Value, b.Value),
	)
}

// CompareOut is the order of what comes: by key; the left row (none first); the right row (none first).
//
// A row counts even where it is said not to be there, so that only what is the same in all is the same in order.
func CompareOut(a, b api.Out) (_ int) {
	return cmp.Or(
		cmp.Compare(a.Key, b.Key),
		compareHas(a.HasLeft, b.HasLeft),
		Compare(a.Left, b.Left),
		compareHas(a.HasRight, b.HasRight),
		Compare(a.Right, b.Right),
	)
}

// Pair is what comes of two rows; Lone of one of a side.
func Pair(l, r api.Row) (_ api.Out) {
	return api.Out{Key: l.Key, Left: l, Right: r, HasLeft: true, HasRight: true}
}

// Lone is what comes of a row of a side that meets none.
func Lone(side int, r api.Row) (_ api.Out) {
	if side == api.Left {
		return api.Out{Key: r.Key, Left: r, HasLeft: true}
	}
	return api.Out{Key: r.Key, Right: r, HasRight: true}
}

// Meets says whether two rows meet by a plan.
//
// Rows that are not Good meet none: the difference of their times might go round.
func Meets(p api.Plan, l, r api.Row) (_ bool) {
	if !Good(l) || !Good(r) || l.Key != r.Key {
		return false
	}
	near := within(p.Low, p.High)
	return near(r.Time - l.Time)
}

// within looks at a number: a row's bounds and a plan's are held to by one rule.
func within(low, high int) func(int) bool {
	return func(n int) bool { return low <= n && n <= high }
}

// compareHas puts who has behind who has not.
func compareHas(a, b bool) int {
	switch {
	case a == b:
		return 0
	case b:
		return -1
	}
	return 1
}

package row

import (
	"math"
	"testing"

	"estuary/api"
)

// TestGood covers promise 1.1: each number by itself at its bounds and just beyond.
func TestGood(t *testing.T) {
	numbers := []struct {
		n    int
		want bool
	}{
		{0, true},
		{7, true},
		{-7, true},
		{api.MaxTime - 1, true},
		{api.MaxTime, true},
		{api.MaxTime + 1, false},
		{-api.MaxTime + 1, true},
		{-api.MaxTime, true},
		{-api.MaxTime - 1, false},
		{math.MaxInt, false},
		{math.MinInt, false},
	}
	for _, c := range numbers {
		for _, r := range []api.Row{{Key: c.n}, {Time: c.n}, {Value: c.n}} {
			if got := Good(r); got != c.want {
				t.Errorf("Good(%v) = %v, want %v", r, got, c.want)
			}
		}
	}
	if r := (api.Row{Key: api.MaxTime, Time: -api.MaxTime, Value: api.MaxTime}); !Good(r) {
		t.Errorf("Good(%v) = false, want true", r)
	}
	if r := (api.Row{Key: math.MaxInt, Time: math.MinInt, Value: math.MaxInt}); Good(r) {
		t.Errorf("Good(%v) = true, want false", r)
	}
}

// TestCompare covers promise 1.1: rows that rise, each held against each. Those that are not Good have their order, too.
func TestCompare(t *testing.T) {
	rising := []api.Row{
		{Key: math.MinInt, Time: math.MaxInt, Value: math.MaxInt},
		{Key: -1, Time: 9, Value: 9},
		{Key: 0, Time: math.MinInt, Value: 9},
		{Key: 0, Time: -1, Value: 9},
		{Key: 0, Time: 0, Value: math.MinInt},
		{Key: 0, Time: 0, Value: -1},
		{Key: 0, Time: 0, Value: 0},
		{Key: 0, Time: 0, Value: 5},
		{Key: 0, Time: 0, Value: math.MaxInt},
		{Key: 0, Time: 1, Value: -9},
		{Key: 0, Time: math.MaxInt, Value: -9},
		{Key: 1, Time: -9, Value: -9},
		{Key: api.MaxTime, Time: -api.MaxTime, Value: -api.MaxTime},
		{Key: api.MaxTime + 1, Time: -api.MaxTime, Value: -api.MaxTime},
		{Key: math.MaxInt, Time: math.MinInt, Value: math.MinInt},
	}
	checkRising(t, "Compare", rising, Compare)
}

// TestCompareOut covers promise 1.1: Outs that rise, each held against each.
func TestCompareOut(t *testing.T) {
	low, mid, high := api.Row{Key: 1, Time: 2, Value: 3}, api.Row{Key: 1, Time: 2, Value: 4}, api.Row{Key: 1, Time: 3, Value: 0}
	rising := []api.Out{
		{Key: math.MinInt, Left: high, Right: high, HasLeft: true, HasRight: true},
		{Key: 0, Left: high, Right: high, HasLeft: true, HasRight: true},
		// Of one key: who has no left row is ahead, even with a greater row on the right.
		{Key: 1},
		{Key: 1, Right: low, HasRight: true},
		{Key: 1, Right: mid, HasRight: true},
		{Key: 1, Right: high, HasRight: true},
		// Then by the left row; behind that who has no right row is ahead.
		{Key: 1, Left: low, HasLeft: true},
		{Key: 1, Left: low, Right: low, HasLeft: true, HasRight: true},
		{Key: 1, Left: low, Right: high, HasLeft: true, HasRight: true},
		{Key: 1, Left: mid, HasLeft: true},
		{Key: 1, Left: mid, Right: low, HasLeft: true, HasRight: true},
		{Key: 1, Left: high, HasLeft: true},
		{Key: 1, Left: high, Right: low, HasLeft: true, HasRight: true},
		{Key: 2},
		{Key: math.MaxInt},
	}
	checkRising(t, "CompareOut", rising, CompareOut)
}

// TestCompareOutOfOddOnes covers promise 1.1, of Outs that Pair and Lone never tell: the words are held to one by one.
func TestCompareOutOfOddOnes(t *testing.T) {
	rising := []api.Out{
		// A row that is said not to be there counts where the words name it.
		{Key: 1, Right: api.Row{Value: 8}},
		{Key: 1, Right: api.Row{Value: 9}},
		{Key: 1, HasRight: true},
		{Key: 1, Left: api.Row{Value: 9}},
		{Key: 1, Left: api.Row{Value: 9}, HasRight: true},
		{Key: 1, HasLeft: true},
		// A row's key is not its Out's.
		{Key: 1, Left: api.Row{Key: 5}, HasLeft: true},
		{Key: 1, Left: api.Row{Key: 6, Time: -1}, HasLeft: true},
		{Key: 2, Left: api.Row{Key: -7}, HasLeft: true},
	}
	checkRising(t, "CompareOut", rising, CompareOut)
}

// TestLoneRightIsAhead covers example 1 of the document.
func TestLoneRightIsAhead(t *testing.T) {
	r := api.Row{Key: 1, Time: 10, Value: 5}
	if got := CompareOut(Lone(api.Right, r), Lone(api.Left, r)); got != -1 {
		t.Errorf("right alone against left alone: %d, want -1", got)
	}
	if got := CompareOut(Lone(api.Left, r), Pair(r, r)); got != -1 {
		t.Errorf("left alone against the pair: %d, want -1", got)
	}
}

// TestPair covers promise 1.1: the key is the left row's, even if the right one has another.
func TestPair(t *testing.T) {
	l := api.Row{Key: 1, Time: 2, Value: 3}
	for _, r := range []api.Row{{Key: 1, Time: 5, Value: 6}, {Key: 4, Time: 5, Value: 6}, {Key: math.MaxInt, Time: math.MinInt}, {}} {
		want := api.Out{Key: 1, Left: l, Right: r, HasLeft: true, HasRight: true}
		if got := Pair(l, r); got != want {
			t.Errorf("Pair(%v, %v) = %v, want %v", l, r, got, want)
		}
	}
	if got, want := Pair(api.Row{}, l), (api.Out{Right: l, HasLeft: true, HasRight: true}); got != want {
		t.Errorf("Pair of no row and %v = %v, want %v", l, got, want)
	}
}

// TestLone covers promise 1.1: what is not the left side is the right one, whatever its number; the other row is none.
func TestLone(t *testing.T) {
	for _, r := range []api.Row{{Key: 1, Time: 2, Value: 3}, {Key: -api.MaxTime - 1, Time: math.MaxInt, Value: math.MinInt}, {}} {
		left := api.Out{Key: r.Key, Left: r, HasLeft: true}
		if got := Lone(api.Left, r); got != left {
			t.Errorf("Lone(Left, %v) = %v, want %v", r, got, left)
		}
		right := api.Out{Key: r.Key, Right: r, HasRight: true}
		for _, side := range []int{api.Right, 2, -1, math.MaxInt, math.MinInt} {
			if got := Lone(side, r); got != right {
				t.Errorf("Lone(%d, %v) = %v, want %v", side, r, got, right)
			}
		}
	}
}

// TestMeets covers promise 1.1: a distance at Low and High and just beyond, of plans on either side of 0.
func TestMeets(t *testing.T) {
	plans := []api.Plan{
		{Low: 0, High: 5},
		{Low: 0, High: 0},
		{Low: -4, High: 3},
		{Low: -9, High: -2, Mode: api.Full},
		{Low: 2, High: 9, Mode: api.LeftOuter},
		{Low: -api.MaxSpan, High: api.MaxSpan},
		{Low: api.MaxSpan, High: api.MaxSpan},
	}
	for _, p := range plans {
		for _, start := range []int{0, 10, -10, api.MaxTime / 2, -api.MaxTime / 2} {
			for apart, want := range map[int]bool{p.Low - 1: false, p.Low: true, p.High: true, p.High + 1: false} {
				l, r := api.Row{Key: 3, Time: start, Value: 1}, api.Row{Key: 3, Time: start + apart, Value: 2}
				checkMeets(t, p, l, r, want)
				r.Key = 4
				checkMeets(t, p, l, r, false)
			}
		}
	}
}

// TestMeetsIsNotOfEitherSide covers promise 1.1: it is the right time less the left one.
func TestMeetsIsNotOfEitherSide(t *testing.T) {
	p := api.Plan{Low: 1, High: 5}
	early, late := api.Row{Key: 1, Time: 10}, api.Row{Key: 1, Time: 12}
	checkMeets(t, p, early, late, true)
	checkMeets(t, p, late, early, false)
}

// TestMeetsAtTheEnds covers promise 1.1: rows at the bounds of times, and plans that no join takes.
func TestMeetsAtTheEnds(t *testing.T) {
	first, last := api.Row{Time: -api.MaxTime}, api.Row{Time: api.MaxTime}
	checkMeets(t, api.Plan{Low: 2 * api.MaxTime, High: 2 * api.MaxTime}, first, last, true)
	checkMeets(t, api.Plan{Low: -2 * api.MaxTime, High: -2 * api.MaxTime}, last, first, true)
	checkMeets(t, api.Plan{Low: -2*api.MaxTime + 1, High: 2 * api.MaxTime}, last, first, false)
	checkMeets(t, api.Plan{Low: math.MinInt, High: math.MaxInt}, first, last, true)
	checkMeets(t, api.Plan{Low: 1, High: -1}, first, first, false)
	checkMeets(t, api.Plan{Low: math.MaxInt, High: math.MinInt}, first, last, false)
}

// TestMeetsOfRowsThatMayNotBe: of rows that are not Good no sentence tells an answer: false (P2).
func TestMeetsOfRowsThatMayNotBe(t *testing.T) {
	all := api.Plan{Low: math.MinInt, High: math.MaxInt}
	for _, bad := range []api.Row{{Time: api.MaxTime + 1}, {Time: -api.MaxTime - 1}, {Value: api.MaxTime + 1}, {Time: math.MinInt}, {Time: math.MaxInt}} {
		checkMeets(t, all, bad, api.Row{}, false)
		checkMeets(t, all, api.Row{}, bad, false)
		checkMeets(t, all, bad, bad, false)
	}
	checkMeets(t, all, api.Row{Key: api.MaxTime + 1}, api.Row{Key: api.MaxTime + 1}, false)
	checkMeets(t, all, api.Row{}, api.Row{}, true)
}

func checkMeets(t *testing.T, p api.Plan, l, r api.Row, want bool) {
	t.Helper()
	if got := Meets(p, l, r); got != want {
		t.Errorf("Meets(%v, %v, %v) = %v, want %v", p, l, r, got, want)
	}
}

// checkRising holds each of a list against each: by their places it is known how they compare.
func checkRising[T any](t *testing.T, name string, rising []T, compare func(a, b T) int) {
	t.Helper()
	for i, a := range rising {
		for k, b := range rising {
			want := 0
			if i < k {
				want = -1
			} else if i > k {
				want = 1
			}
			if got := compare(a, b); got != want {
				t.Errorf("%s(%v, %v) = %d, want %d", name, a, b, got, want)
			}
		}
	}
}

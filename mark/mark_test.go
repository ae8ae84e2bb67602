package mark

import (
	"errors"
	"math"
	"testing"

	"estuary/api"
)

// first is where each mark is at first, by the document's words.
const first = -api.MaxTime - 1

// noSides are numbers of no side.
func noSides() []int {
	return []int{-1, 2, 3, math.MinInt, math.MaxInt}
}

// TestNew covers promise 3.1: both marks are ahead of all times.
func TestNew(t *testing.T) {
	m := New()
	checkMarks(t, m, first, first)
	for _, side := range []int{api.Left, api.Right} {
		checkLate(t, m, side, -api.MaxTime, false)
		checkLate(t, m, side, 0, false)
		checkLate(t, m, side, first, true)
	}
}

// TestMove covers promise 3.1: a mark goes on, and is the moved side's alone.
func TestMove(t *testing.T) {
	m := New()
	checkMove(t, m, api.Left, 5, api.OK)
	checkMarks(t, m, 5, first)
	checkMove(t, m, api.Right, 3, api.OK)
	checkMarks(t, m, 5, 3)
	checkMove(t, m, api.Right, 8, api.OK)
	checkMarks(t, m, 5, 8)
	checkMove(t, m, api.Left, 6, api.OK)
	checkMarks(t, m, 6, 8)
}

// TestMoveToWhereItIs covers promise 3.1: that is not below the mark.
func TestMoveToWhereItIs(t *testing.T) {
	for _, side := range []int{api.Left, api.Right} {
		for _, time := range []int{-api.MaxTime, -4, 0, 7, api.MaxTime} {
			m := New()
			checkMove(t, m, side, time, api.OK)
			checkMove(t, m, side, time, api.OK)
			checkOf(t, m, side, time)
			checkOf(t, m, 1-side, first)
		}
	}
}

// TestMoveBack covers promise 3.1: below that side's mark is ErrOrder, and nothing is changed (P2); the other side's mark does not count.
func TestMoveBack(t *testing.T) {
	m := New()
	checkMove(t, m, api.Left, 5, api.OK)
	checkMove(t, m, api.Left, 4, api.ErrOrder)
	checkMove(t, m, api.Left, -api.MaxTime, api.ErrOrder)
	checkMarks(t, m, 5, first)
	checkMove(t, m, api.Right, 4, api.OK)
	checkMarks(t, m, 5, 4)
	checkMove(t, m, api.Right, 3, api.ErrOrder)
	checkMarks(t, m, 5, 4)
	checkMove(t, m, api.Right, api.MaxTime, api.OK)
	checkMove(t, m, api.Right, api.MaxTime-1, api.ErrOrder)
	checkMarks(t, m, 5, api.MaxTime)
}

// TestMoveAtTheEnds covers promise 3.1: the first and the last time, and just beyond; even where a mark is at first.
func TestMoveAtTheEnds(t *testing.T) {
	for _, side := range []int{api.Left, api.Right} {
		m := New()
		for _, beyond := range []int{first, -api.MaxTime - 2, api.MaxTime + 1, math.MinInt, math.MaxInt} {
			checkMove(t, m, side, beyond, api.ErrRange)
			checkMarks(t, m, first, first)
		}
		checkMove(t, m, side, -api.MaxTime, api.OK)
		checkOf(t, m, side, -api.MaxTime)
		// What is below the mark, too, is beyond the times first of all.
		checkMove(t, m, side, first, api.ErrRange)
		checkMove(t, m, side, api.MaxTime+1, api.ErrRange)
		checkOf(t, m, side, -api.MaxTime)
		checkMove(t, m, side, api.MaxTime, api.OK)
		checkOf(t, m, side, api.MaxTime)
		checkMove(t, m, side, api.MaxTime+1, api.ErrRange)
		checkMove(t, m, side, math.MinInt, api.ErrRange)
		checkOf(t, m, side, api.MaxTime)
		checkOf(t, m, 1-side, first)
	}
}

// TestNoSide covers promise 3.1: no mark of it is moved, whatever the time; it stays where marks are at first.
func TestNoSide(t *testing.T) {
	m := New()
	checkMove(t, m, api.Left, 5, api.OK)
	checkMove(t, m, api.Right, 7, api.OK)
	for _, side := range noSides() {
		for _, time := range []int{6, 9, 0, api.MaxTime, api.MaxTime + 1, first, math.MinInt, math.MaxInt} {
			checkMove(t, m, side, time, api.ErrArg)
		}
		checkMarks(t, m, 5, 7)
		checkOf(t, m, side, first)
		checkLate(t, m, side, first, true)
		checkLate(t, m, side, math.MinInt, true)
		checkLate(t, m, side, -api.MaxTime, false)
		checkLate(t, m, side, 5, false)
	}
}

// TestLate covers promise 3.1: a time at the mark is late, the next one is not; each by its own side's mark.
func TestLate(t *testing.T) {
	marks := [...]int{api.Left: 5, api.Right: -7}
	m := New()
	for side, time := range marks {
		checkMove(t, m, side, time, api.OK)
	}
	for side, time := range marks {
		checkLate(t, m, side, time-1, true)
		checkLate(t, m, side, time, true)
		checkLate(t, m, side, time+1, false)
		checkLate(t, m, side, math.MinInt, true)
		checkLate(t, m, side, math.MaxInt, false)
	}
	checkLate(t, m, api.Left, 0, true)
	checkLate(t, m, api.Right, 0, false)
	checkMarks(t, m, 5, -7)
}

// TestLateAtTheEnds covers promise 3.1: by the last mark all times are late, by the first one the first time alone.
func TestLateAtTheEnds(t *testing.T) {
	m := New()
	checkMove(t, m, api.Left, api.MaxTime, api.OK)
	checkMove(t, m, api.Right, -api.MaxTime, api.OK)
	checkLate(t, m, api.Left, api.MaxTime, true)
	checkLate(t, m, api.Left, api.MaxTime+1, false)
	checkLate(t, m, api.Right, -api.MaxTime, true)
	checkLate(t, m, api.Right, -api.MaxTime+1, false)
}

// TestTwoMarks: each has its own.
func TestTwoMarks(t *testing.T) {
	a, b := New(), New()
	checkMove(t, a, api.Left, 5, api.OK)
	checkMarks(t, a, 5, first)
	checkMarks(t, b, first, first)
}

func checkMove(t *testing.T, m *Marks, side, time int, want api.Errno) {
	t.Helper()
	err := m.Move(side, time)
	if got := api.Tell(err); got != want {
		t.Errorf("Move(%d, %d) = %v, want %v", side, time, got, want)
	}
	var at *api.At
	if errors.As(err, &at) {
		t.Errorf("Move(%d, %d): its error has a place", side, time)
	}
}

func checkOf(t *testing.T, m *Marks, side, want int) {
	t.Helper()
	if got := m.Of(side); got != want {
		t.Errorf("Of(%d) = %d, want %d", side, got, want)
	}
}

// checkMarks looks at both marks, and at the lesser one.
func checkMarks(t *testing.T, m *Marks, left, right int) {
	t.Helper()
	checkOf(t, m, api.Left, left)
	checkOf(t, m, api.Right, right)
	if got, want := m.Both(), min(left, right); got != want {
		t.Errorf("Both() = %d, want %d", got, want)
	}
}

func checkLate(t *testing.T, m *Marks, side, time int, want bool) {
	t.Helper()
	if got := m.Late(side, time); got != want {
		t.Errorf("Late(%d, %d) = %v, want %v", side, time, got, want)
	}
}

package side

import (
	"cmp"
	"errors"
	"math"
	"slices"
	"testing"

	"estuary/api"
)

// some are rows in order (promise 4.1), each having met another number; three of one key and time, whose values do not rise.
func some() []Met {
	return []Met{
		{api.Row{Key: -api.MaxTime, Time: api.MaxTime, Value: 1}, 0},
		{api.Row{Key: 1, Time: -api.MaxTime, Value: 9}, 3},
		{api.Row{Key: 1, Time: 4, Value: 8}, 0},
		{api.Row{Key: 1, Time: 5, Value: 7}, 2},
		{api.Row{Key: 1, Time: 5, Value: -7}, 0},
		{api.Row{Key: 1, Time: 5, Value: 2}, 1},
		{api.Row{Key: 1, Time: 7, Value: 0}, 0},
		{api.Row{Key: 2, Time: -3, Value: 5}, 4},
		{api.Row{Key: 2, Time: 5, Value: 5}, 0},
		{api.Row{Key: api.MaxTime, Time: -api.MaxTime, Value: -api.MaxTime}, 1},
		{api.Row{Key: api.MaxTime, Time: api.MaxTime, Value: api.MaxTime}, 0},
	}
}

// filled is a Side to which these were added, one by one.
func filled(t *testing.T, rows []Met) *Side {
	t.Helper()
	var s Side
	for _, m := range rows {
		checkAdd(t, &s, m.Row, m.Before, api.OK)
	}
	return &s
}

// full is a Side with MaxRows rows, in order: a time each.
func full(t *testing.T) (*Side, []Met) {
	t.Helper()
	var rows []Met
	for i := range api.MaxRows {
		rows = append(rows, Met{Row: api.Row{Key: 1, Time: i}, Before: i % 3})
	}
	return filled(t, rows), rows
}

// TestZeroValue covers promise 4.1: at first there are no rows, and none meets or goes.
func TestZeroValue(t *testing.T) {
	var s Side
	checkSide(t, &s, nil)
	checkMeet(t, &s, 0, math.MinInt, math.MaxInt, nil)
	checkDrop(t, &s, math.MaxInt, 0)
	checkSide(t, &s, nil)
}

// TestOrder covers promise 4.1: by key, then time, however they came.
func TestOrder(t *testing.T) {
	want := some()
	// Of each key and time one alone: how they came is not seen then.
	want = slices.Delete(want, 4, 6)
	for _, step := range []int{1, 2, 4, 5, 7, 8} {
		var s Side
		for i := range want {
			m := want[i*step%len(want)]
			checkAdd(t, &s, m.Row, m.Before, api.OK)
		}
		checkSide(t, &s, want)
	}
}

// TestOneKeyAndTime covers promise 4.1: such rows stand as they came, whatever their values, and what came or went between them.
func TestOneKeyAndTime(t *testing.T) {
	values := []int{5, -2, 9, 5, 0, 9}
	var s Side
	var want []Met
	for i, v := range values {
		m := Met{api.Row{Key: 1, Time: 5, Value: v}, i}
		checkAdd(t, &s, m.Row, i, api.OK)
		want = append(want, m)
		checkAdd(t, &s, api.Row{Key: 1, Time: 4, Value: i}, 0, api.OK)
		checkAdd(t, &s, api.Row{Key: 0, Time: 3, Value: i}, 0, api.OK)
		checkDrop(t, &s, 4, 2)
		checkSide(t, &s, want)
	}
	checkMeet(t, &s, 1, 5, 5, want)
	checkSide(t, &s, oneMoreEach(want))
}

// TestSameRowTwice covers promise 4.1: it is there twice, each having met its own number, and both meet, and both go.
func TestSameRowTwice(t *testing.T) {
	r := api.Row{Key: 1, Time: 5, Value: 7}
	want := []Met{{r, 3}, {r, 0}, {r, 3}}
	s := filled(t, want)
	checkSide(t, s, want)
	checkMeet(t, s, 1, 5, 5, want)
	checkSide(t, s, []Met{{r, 4}, {r, 1}, {r, 4}})
	checkDrop(t, s, 5, 3)
	checkSide(t, s, nil)
}

// TestFull covers promise 4.1: MaxRows are taken, and one more is not, wherever it would stand; nothing is changed then (P2).
func TestFull(t *testing.T) {
	s, want := full(t)
	checkSide(t, s, want)
	for _, r := range []api.Row{{Key: 1, Time: 5}, {Key: 0}, {Key: 2}, {Key: 1, Time: api.MaxTime}} {
		checkAdd(t, s, r, 0, api.ErrFull)
		checkSide(t, s, want)
	}
	// What may not be is told first.
	checkAdd(t, s, api.Row{Key: api.MaxTime + 1}, 0, api.ErrArg)
	checkAdd(t, s, api.Row{Key: 1}, -1, api.ErrArg)
	checkSide(t, s, want)
	checkMeet(t, s, 1, 0, 2, want[:3])
	want = append(oneMoreEach(want[:3]), want[3:]...)
	checkSide(t, s, want)
	// One goes, so that there is room for one.
	checkDrop(t, s, 0, 1)
	r := api.Row{Key: 1, Time: api.MaxTime}
	checkAdd(t, s, r, 2, api.OK)
	checkAdd(t, s, r, 2, api.ErrFull)
	checkSide(t, s, append(want[1:], Met{r, 2}))
}

// TestNotGood covers promise 4.1: each number by itself at its bounds and just beyond; nothing is changed by what is refused (P2).
func TestNotGood(t *testing.T) {
	numbers := []struct {
		n    int
		want api.Errno
	}{
		{api.MaxTime, api.OK},
		{-api.MaxTime, api.OK},
		{api.MaxTime + 1, api.ErrArg},
		{-api.MaxTime - 1, api.ErrArg},
		{math.MaxInt, api.ErrArg},
		{math.MinInt, api.ErrArg},
	}
	for _, c := range numbers {
		for _, r := range []api.Row{{Key: c.n}, {Time: c.n}, {Value: c.n}} {
			var s Side
			checkAdd(t, &s, r, 2, c.want)
			if c.want == api.OK {
				checkSide(t, &s, []Met{{r, 2}})
			} else {
				checkSide(t, &s, nil)
			}
			checkAdd(t, &s, r, -1, api.ErrArg)
		}
	}
	want := some()
	s := filled(t, want)
	checkAdd(t, s, api.Row{Key: 1, Time: 5, Value: api.MaxTime + 1}, 0, api.ErrArg)
	checkSide(t, s, want)
}

// TestMetBelowNone covers promise 4.1: a number below 0 is refused, 0 and any above it is taken.
func TestMetBelowNone(t *testing.T) {
	r := api.Row{Key: 1, Time: 5, Value: 7}
	for _, met := range []int{-1, -2, math.MinInt} {
		var s Side
		checkAdd(t, &s, r, met, api.ErrArg)
		checkSide(t, &s, nil)
	}
	for _, met := range []int{0, 1, api.MaxTime + 1, math.MaxInt} {
		checkSide(t, filled(t, []Met{{r, met}}), []Met{{r, met}})
	}
}

// TestMeet covers promise 4.1: which rows meet, by times that are just a row's and the next ones; only those met one more.
func TestMeet(t *testing.T) {
	cases := []struct {
		key, from, to int
		first, end    int // of some
	}{
		{1, 5, 5, 3, 6},
		{1, 4, 5, 2, 6},
		{1, 4, 4, 2, 3},
		{1, 5, 7, 3, 7},
		{1, 5, 6, 3, 6},
		{1, 6, 6, 0, 0},
		{1, 6, 7, 6, 7},
		{1, 7, 7, 6, 7},
		{1, 8, 9, 0, 0},
		{1, -api.MaxTime, 3, 1, 2},
		{1, -api.MaxTime + 1, 3, 0, 0},
		{1, -api.MaxTime, api.MaxTime, 1, 7},
		{1, math.MinInt, math.MaxInt, 1, 7},
		{1, math.MinInt, math.MinInt, 0, 0},
		{1, math.MaxInt, math.MaxInt, 0, 0},
		// From beyond to.
		{1, 5, 4, 0, 0},
		{1, 7, 4, 0, 0},
		{1, 6, 5, 0, 0},
		{1, math.MaxInt, math.MinInt, 0, 0},
		// Other keys: with rows at just these times, and without any.
		{2, 5, 5, 8, 9},
		{2, -3, 5, 7, 9},
		{2, -2, 4, 0, 0},
		{0, math.MinInt, math.MaxInt, 0, 0},
		{3, math.MinInt, math.MaxInt, 0, 0},
		{-api.MaxTime, api.MaxTime, api.MaxTime, 0, 1},
		{api.MaxTime, math.MinInt, math.MaxInt, 9, 11},
		{api.MaxTime, api.MaxTime, api.MaxTime, 10, 11},
		{api.MaxTime + 1, math.MinInt, math.MaxInt, 0, 0},
		{math.MinInt, math.MinInt, math.MaxInt, 0, 0},
		{math.MaxInt, math.MinInt, math.MaxInt, 0, 0},
	}
	for _, c := range cases {
		rows := some()
		s := filled(t, rows)
		met := slices.Clone(rows[c.first:c.end])
		checkMeet(t, s, c.key, c.from, c.to, met)
		checkSide(t, s, slices.Concat(rows[:c.first], oneMoreEach(met), rows[c.end:]))
	}
}

// TestMeetAgain covers promise 4.1: each time a row tells how many it met before, and met one more then.
func TestMeetAgain(t *testing.T) {
	a, b := api.Row{Key: 1, Time: 5, Value: 7}, api.Row{Key: 1, Time: 6, Value: 7}
	s := filled(t, []Met{{a, 0}, {b, 4}})
	checkMeet(t, s, 1, 5, 6, []Met{{a, 0}, {b, 4}})
	checkMeet(t, s, 1, 5, 5, []Met{{a, 1}})
	checkMeet(t, s, 1, 5, 6, []Met{{a, 2}, {b, 5}})
	checkMeet(t, s, 2, 5, 6, nil)
	checkMeet(t, s, 1, 6, 5, nil)
	checkSide(t, s, []Met{{a, 3}, {b, 6}})
	// One that comes later met its own number alone.
	checkAdd(t, s, a, 0, api.OK)
	checkMeet(t, s, 1, 5, 5, []Met{{a, 3}, {a, 0}})
	checkSide(t, s, []Met{{a, 4}, {a, 1}, {b, 6}})
}

// TestMetTheMost: there is no number beyond the last one, so that it stays, and never comes to one that Add refuses.
func TestMetTheMost(t *testing.T) {
	r := api.Row{Key: 1, Time: 5, Value: 7}
	s := filled(t, []Met{{r, math.MaxInt - 1}})
	checkMeet(t, s, 1, 5, 5, []Met{{r, math.MaxInt - 1}})
	checkMeet(t, s, 1, 5, 5, []Met{{r, math.MaxInt}})
	checkSide(t, s, []Met{{r, math.MaxInt}})
}

// TestDrop covers promise 4.1: a to that drops none, some and all, of whichever key; those that stay are as they were.
func TestDrop(t *testing.T) {
	cases := []struct{ to, many int }{
		{math.MinInt, 0},
		{-api.MaxTime - 1, 0},
		{-api.MaxTime, 2},
		{-4, 2},
		{-3, 3},
		{3, 3},
		{4, 4},
		{5, 8},
		{6, 8},
		{7, 9},
		{api.MaxTime - 1, 9},
		{api.MaxTime, 11},
		{math.MaxInt, 11},
	}
	for _, c := range cases {
		var left []Met
		for _, m := range some() {
			if m.Row.Time > c.to {
				left = append(left, m)
			}
		}
		s := filled(t, some())
		checkDrop(t, s, c.to, c.many)
		checkSide(t, s, left)
		checkDrop(t, s, c.to, 0)
		checkSide(t, s, left)
	}
}

// TestDroppedMayComeAgain covers promise 4.1: what is gone meets no more; a row of a time that was dropped is a row as any other.
func TestDroppedMayComeAgain(t *testing.T) {
	r := api.Row{Key: 1, Time: 5, Value: 7}
	s := filled(t, []Met{{r, 2}})
	checkDrop(t, s, 5, 1)
	checkMeet(t, s, 1, 5, 5, nil)
	checkAdd(t, s, r, 0, api.OK)
	checkMeet(t, s, 1, 5, 5, []Met{{r, 0}})
	checkSide(t, s, []Met{{r, 1}})
}

// TestAnswersAreTheCallers covers P4: what is written into an answer is seen in no other one, nor in the Side.
func TestAnswersAreTheCallers(t *testing.T) {
	rows := some()[2:7]
	s := filled(t, rows)
	all, other, met := s.All(), s.All(), s.Meet(1, 4, 7)
	spoil(all)
	checkMets(t, "All", other, rows)
	checkMets(t, "Meet", met, rows)
	spoil(met)
	checkSide(t, s, oneMoreEach(rows))
	// Nor is what comes later seen in an answer.
	all, met = s.All(), s.Meet(1, 4, 7)
	checkAdd(t, s, api.Row{Key: 1, Time: 4, Value: 1}, 0, api.OK)
	checkDrop(t, s, 5, 5)
	checkMets(t, "All", all, oneMoreEach(rows))
	checkMets(t, "Meet", met, oneMoreEach(rows))
}

// TestTwoSides: each has its own.
func TestTwoSides(t *testing.T) {
	r := api.Row{Key: 1, Time: 5, Value: 7}
	var a, b Side
	checkAdd(t, &a, r, 0, api.OK)
	checkMeet(t, &b, 1, 5, 5, nil)
	checkDrop(t, &b, 5, 0)
	checkSide(t, &a, []Met{{r, 0}})
	checkSide(t, &b, nil)
}

// TestCameMetAndWent covers promise 4.1: behind each call all that is told is what a plain list of what is there tells.
func TestCameMetAndWent(t *testing.T) {
	var s Side
	var there []Met
	drawn := uint32(1)
	draw := func(most int) int {
		drawn = drawn*1664525 + 1013904223
		return int(drawn>>8) % most
	}
	for range 5000 {
		switch kind := draw(40); {
		case kind < 28:
			m := Met{api.Row{Key: draw(4), Time: draw(30), Value: draw(9)}, draw(3)}
			want := api.ErrFull
			if len(there) < api.MaxRows {
				want = api.OK
				there = append(there, m)
			}
			checkAdd(t, &s, m.Row, m.Before, want)
		case kind < 38:
			key, from := draw(5), draw(30)
			to := from + draw(8) - 1
			checkMeet(t, &s, key, from, to, meetPlainly(there, key, from, to))
		default:
			to, many := draw(12)-1, len(there)
			there = slices.DeleteFunc(there, func(m Met) bool { return m.Row.Time <= to })
			checkDrop(t, &s, to, many-len(there))
		}
		// A stable sort leaves those of one key and time as they came.
		slices.SortStableFunc(there, func(a, b Met) int {
			return cmp.Or(cmp.Compare(a.Row.Key, b.Row.Key), cmp.Compare(a.Row.Time, b.Row.Time))
		})
		checkSide(t, &s, there)
	}
}

// meetPlainly looks at every row that is there.
func meetPlainly(there []Met, key, from, to int) []Met {
	var met []Met
	for i, m := range there {
		if m.Row.Key == key && from <= m.Row.Time && m.Row.Time <= to {
			met = append(met, m)
			there[i].Before++
		}
	}
	return met
}

// oneMoreEach are the same rows, each having met one more.
func oneMoreEach(rows []Met) []Met {
	more := slices.Clone(rows)
	for i := range more {
		more[i].Before++
	}
	return more
}

// spoil writes over all of a list, and over what stands behind its length.
func spoil(l []Met) {
	l = l[:cap(l)]
	for i := range l {
		l[i] = Met{api.Row{Key: -9, Time: -9, Value: -9}, -9}
	}
}

func checkAdd(t *testing.T, s *Side, r api.Row, met int, want api.Errno) {
	t.Helper()
	err := s.Add(r, met)
	if got := api.Tell(err); got != want {
		t.Fatalf("Add(%v, %d) = %v, want %v", r, met, got, want)
	}
	var at *api.At
	if errors.As(err, &at) {
		t.Errorf("Add(%v, %d): its error has a place", r, met)
	}
}

func checkMeet(t *testing.T, s *Side, key, from, to int, want []Met) {
	t.Helper()
	if got := s.Meet(key, from, to); !slices.Equal(got, want) {
		t.Fatalf("Meet(%d, %d, %d) = %v, want %v", key, from, to, got, want)
	}
}

func checkDrop(t *testing.T, s *Side, to, want int) {
	t.Helper()
	if got := s.Drop(to); got != want {
		t.Fatalf("Drop(%d) = %d, want %d", to, got, want)
	}
}

// checkSide looks at all that a Side tells of what is there.
func checkSide(t *testing.T, s *Side, want []Met) {
	t.Helper()
	if got := s.Many(); got != len(want) {
		t.Fatalf("Many() = %d, want %d", got, len(want))
	}
	checkMets(t, "All", s.All(), want)
}

func checkMets(t *testing.T, of string, got, want []Met) {
	t.Helper()
	if !slices.Equal(got, want) {
		t.Fatalf("%s = %v, want %v", of, got, want)
	}
}

package join

import (
	"cmp"
	"errors"
	"math"
	"slices"
	"testing"

	"estuary/api"
	"estuary/bag"
	"estuary/row"
	"estuary/side"
)

// start is a mark as it is at first (promise 3.1).
const start = -api.MaxTime - 1

// modes are all of them; tellsLeft and tellsRight whose rows each of them tells (promise 5.1).
var (
	modes      = [4]int{api.Inner, api.LeftOuter, api.RightOuter, api.Full}
	tellsLeft  = [4]bool{api.LeftOuter: true, api.Full: true}
	tellsRight = [4]bool{api.RightOuter: true, api.Full: true}
)

// told says whether a mode tells a side's rows that meet none.
func told(mode, s int) bool {
	if s == api.Left {
		return tellsLeft[mode]
	}
	return tellsRight[mode]
}

// at is a row of key 1 whose value is its time's.
func at(time int) api.Row {
	return api.Row{Key: 1, Time: time, Value: time % 100}
}

func comes(x api.Out) api.Change { return api.Change{Out: x} }

func goes(x api.Out) api.Change { return api.Change{Out: x, Gone: true} }

// made is a join of a plan that may be.
func made(t *testing.T, low, high, mode int) *Join {
	t.Helper()
	j, err := New(api.Plan{Low: low, High: high, Mode: mode})
	if err != nil || j == nil {
		t.Fatalf("New(%d, %d, %d) = %v, %v", low, high, mode, j, err)
	}
	return j
}

// TestCheck covers promise 5.1: each bound at its ends and one beyond, Low above High, each mode and one beyond; the first error is told (P3).
func TestCheck(t *testing.T) {
	const most = api.MaxSpan
	cases := []struct {
		low, high, mode int
		want            api.Errno
	}{
		{0, 0, api.Inner, api.OK},
		{0, 0, api.LeftOuter, api.OK},
		{0, 0, api.RightOuter, api.OK},
		{0, 0, api.Full, api.OK},
		{0, 0, -1, api.ErrArg},
		{0, 0, 4, api.ErrArg},
		{0, 0, math.MinInt, api.ErrArg},
		{0, 0, math.MaxInt, api.ErrArg},
		{-most, most, api.Full, api.OK},
		{-most, -most, api.Full, api.OK},
		{most, most, api.Full, api.OK},
		{-most - 1, most, api.Full, api.ErrRange},
		{-most, most + 1, api.Full, api.ErrRange},
		{-most - 1, -most - 1, api.Full, api.ErrRange},
		{most + 1, most + 1, api.Full, api.ErrRange},
		{math.MinInt, 0, api.Full, api.ErrRange},
		{0, math.MaxInt, api.Full, api.ErrRange},
		{-7, -3, api.Inner, api.OK},
		{-3, -3, api.Inner, api.OK},
		{-3, -4, api.Inner, api.ErrOrder},
		{1, 0, api.Inner, api.ErrOrder},
		{most, -most, api.Inner, api.ErrOrder},
		// Several are wrong.
		{most + 1, 0, api.Inner, api.ErrRange},
		{0, -most - 1, 4, api.ErrRange},
		{most + 1, 0, 4, api.ErrRange},
		{1, 0, 4, api.ErrOrder},
		{1, 0, -1, api.ErrOrder},
	}
	for _, c := range cases {
		p := api.Plan{Low: c.low, High: c.high, Mode: c.mode}
		checkError(t, "Check", Check(p), c.want)
		j, err := New(p)
		checkError(t, "New", err, c.want)
		if (j != nil) != (c.want == api.OK) {
			t.Errorf("New(%v) = %v, with %v", p, j, c.want)
		}
	}
}

// TestNew covers promises 5.1 and 5.3: no rows, none late, marks as they are at first.
func TestNew(t *testing.T) {
	j := made(t, 0, 5, api.Full)
	checkJoin(t, j, nil, nil)
	checkRest(t, j, start, start, 0)
}

// TestExample covers promise 5.2 by the document's example.
func TestExample(t *testing.T) {
	j := made(t, 0, 5, api.LeftOuter)
	l, r := at(10), at(12)
	checkFeed(t, j, api.Left, l, comes(row.Lone(api.Left, l)))
	checkFeed(t, j, api.Right, r, goes(row.Lone(api.Left, l)), comes(row.Pair(l, r)))
	checkJoin(t, j, []side.Met{{Row: l, Before: 1}}, []side.Met{{Row: r, Before: 1}})
}

// TestWhichMeet covers promise 5.1: at just Low and just High and one beyond, whichever side came first, at the ends of all times, too.
func TestWhichMeet(t *testing.T) {
	spans := [][2]int{
		{0, 0}, {0, 5}, {-5, 0}, {-2, 3}, {2, 7}, {-7, -2},
		{-api.MaxSpan, api.MaxSpan}, {api.MaxSpan, api.MaxSpan}, {-api.MaxSpan, -api.MaxSpan},
	}
	for _, span := range spans {
		low, high := span[0], span[1]
		for _, time := range []int{-api.MaxTime, -api.MaxTime + 3, 0, 50, api.MaxTime - 3, api.MaxTime} {
			for _, off := range []int{low - 1, low, low + 1, high - 1, high, high + 1} {
				l, r := at(time), at(time+off)
				if row.Good(r) {
					checkMeeting(t, low, high, l, r, low <= off && off <= high)
				}
			}
		}
	}
}

// checkMeeting lets each of two rows come first: what is told, and what is held, is the same but for who met whom.
func checkMeeting(t *testing.T, low, high int, l, r api.Row, meet bool) {
	t.Helper()
	met := 0
	if meet {
		met = 1
	}
	// Ahead of all times there is none that a row could yet meet.
	var lefts, rights []side.Met
	if l.Time+high > start {
		lefts = []side.Met{{Row: l, Before: met}}
	}
	if r.Time-low > start {
		rights = []side.Met{{Row: r, Before: met}}
	}
	pair := comes(row.Pair(l, r))
	aloneLeft, aloneRight := row.Lone(api.Left, l), row.Lone(api.Right, r)

	j := made(t, low, high, api.Full)
	checkFeed(t, j, api.Left, l, comes(aloneLeft))
	if meet {
		checkFeed(t, j, api.Right, r, goes(aloneLeft), pair)
	} else {
		checkFeed(t, j, api.Right, r, comes(aloneRight))
	}
	checkJoin(t, j, lefts, rights)

	j = made(t, low, high, api.Full)
	checkFeed(t, j, api.Right, r, comes(aloneRight))
	if meet {
		checkFeed(t, j, api.Left, l, goes(aloneRight), pair)
	} else {
		checkFeed(t, j, api.Left, l, comes(aloneLeft))
	}
	checkJoin(t, j, lefts, rights)
}

// TestModes covers promises 5.1 and 5.2: of each mode which side's rows are told when they meet none, and gone when one comes; those of the other side are neither.
func TestModes(t *testing.T) {
	for _, mode := range modes {
		for s := range 2 {
			j := made(t, 0, 0, mode)
			r := at(5)
			alone := row.Lone(s, r)
			if told(mode, s) {
				checkFeed(t, j, s, r, comes(alone))
				checkFeed(t, j, 1-s, r, goes(alone), comes(row.Pair(r, r)))
			} else {
				checkFeed(t, j, s, r)
				checkFeed(t, j, 1-s, r, comes(row.Pair(r, r)))
			}
			// Neither is alone any more: pairs come, and nothing goes.
			checkFeed(t, j, 1-s, r, comes(row.Pair(r, r)))
			checkFeed(t, j, s, r, comes(row.Pair(r, r)), comes(row.Pair(r, r)))
			want := []side.Met{{Row: r, Before: 2}, {Row: r, Before: 2}}
			checkJoin(t, j, want, want)
		}
	}
}

// TestMeetsSeveral covers promise 5.2: in order, of each first itself alone that goes, if it met none before, then the pair; whichever side came last.
func TestMeetsSeveral(t *testing.T) {
	a, b, c, d := at(4), at(6), api.Row{Key: 1, Time: 6, Value: -3}, at(8)
	elsewhere := api.Row{Key: 2, Time: 6, Value: 1}
	for s := range 2 {
		for _, mode := range modes {
			j := made(t, -2, 2, mode)
			for _, r := range []api.Row{d, b, elsewhere, a, c} {
				feed(t, j, s, r)
			}
			// This one meets a alone, the next one all of key 1.
			feed(t, j, 1-s, at(3))
			var want []api.Change
			x := at(6)
			for _, m := range []api.Row{a, b, c, d} {
				if m != a && told(mode, s) {
					want = append(want, goes(row.Lone(s, m)))
				}
				want = append(want, comes(paired(1-s, x, m)))
			}
			checkFeed(t, j, 1-s, x, want...)
			checkRows(t, j, s, []side.Met{{Row: a, Before: 2}, {Row: b, Before: 1}, {Row: c, Before: 1}, {Row: d, Before: 1}, {Row: elsewhere}})
			checkRows(t, j, 1-s, []side.Met{{Row: at(3), Before: 1}, {Row: x, Before: 4}})
		}
	}
}

// TestMeetsNone covers promise 5.2: another key, or times beyond: it alone is there, if such ones are told, and is held, as one that met none.
func TestMeetsNone(t *testing.T) {
	for _, mode := range modes {
		for s := range 2 {
			j := made(t, -2, 2, mode)
			other := []api.Row{at(3), at(9), {Key: 2, Time: 6}}
			for _, r := range other {
				feed(t, j, 1-s, r)
			}
			r := at(6)
			if told(mode, s) {
				checkFeed(t, j, s, r, comes(row.Lone(s, r)))
			} else {
				checkFeed(t, j, s, r)
			}
			checkRows(t, j, s, []side.Met{{Row: r}})
			checkRows(t, j, 1-s, []side.Met{{Row: other[0]}, {Row: other[1]}, {Row: other[2]}})
		}
	}
}

// TestLate covers promise 5.2: a row at its side's mark is late, and counted; one behind it is not; the other side's mark makes none late.
func TestLate(t *testing.T) {
	for s := range 2 {
		j := made(t, -9, 9, api.Full)
		feed(t, j, 1-s, at(10))
		checkMove(t, j, s, 10, api.OK)
		checkFeedFails(t, j, s, at(10), api.ErrOrder)
		checkFeedFails(t, j, s, at(-api.MaxTime), api.ErrOrder)
		checkLate(t, j, 2)
		// Nothing is changed but how many were late (P2).
		checkRows(t, j, s, nil)
		checkRows(t, j, 1-s, []side.Met{{Row: at(10)}})
		feed(t, j, s, at(11))
		feed(t, j, 1-s, at(9))
		checkLate(t, j, 2)
		checkHeld(t, j, s, 1)
		checkHeld(t, j, 1-s, 2)
	}
}

// TestLateAtTheEnds covers promise 5.2: no time that may be is late at first, and all are behind a mark at MaxTime.
func TestLateAtTheEnds(t *testing.T) {
	j := made(t, 0, 0, api.Full)
	feed(t, j, api.Left, at(-api.MaxTime))
	checkMove(t, j, api.Left, api.MaxTime, api.OK)
	checkFeedFails(t, j, api.Left, at(api.MaxTime), api.ErrOrder)
	checkLate(t, j, 1)
}

// TestFeedWrong covers promise 5.2: no side, or a row that is not good; that is told ahead of all else, and nothing is changed (P2).
func TestFeedWrong(t *testing.T) {
	j := made(t, -2, 2, api.Full)
	feed(t, j, api.Left, at(5))
	checkMove(t, j, api.Left, 9, api.OK)
	for _, s := range []int{-1, 2, math.MinInt, math.MaxInt} {
		checkFeedFails(t, j, s, at(6), api.ErrArg)
		checkFeedFails(t, j, s, at(-api.MaxTime-1), api.ErrArg)
	}
	for _, n := range []int{api.MaxTime + 1, -api.MaxTime - 1, math.MaxInt, math.MinInt} {
		for s := range 2 {
			checkFeedFails(t, j, s, api.Row{Key: n, Time: 6}, api.ErrArg)
			checkFeedFails(t, j, s, api.Row{Key: 1, Time: n}, api.ErrArg)
			checkFeedFails(t, j, s, api.Row{Key: 1, Time: 6, Value: n}, api.ErrArg)
		}
	}
	checkJoin(t, j, []side.Met{{Row: at(5)}}, nil)
	checkRest(t, j, 9, start, 0)
}

// TestNeedNotBeHeld covers promise 5.2: a row whose last time is the other side's mark is not held, one whose is above it is; both are told, and those that they meet met one more.
func TestNeedNotBeHeld(t *testing.T) {
	const low, high = -2, 3
	for s := range 2 {
		for _, mode := range modes {
			last := high
			if s == api.Right {
				last = -low
			}
			j := made(t, low, high, mode)
			// It may yet meet what comes of the first side, and so is held behind the mark.
			m := api.Row{Key: 1, Time: 10 - last, Value: 1}
			feed(t, j, 1-s, m)
			checkMove(t, j, 1-s, 10, api.OK)

			r := at(10 - last)
			want := []api.Change{comes(paired(s, r, m))}
			if told(mode, 1-s) {
				want = append([]api.Change{goes(row.Lone(1-s, m))}, want...)
			}
			checkFeed(t, j, s, r, want...)
			checkRows(t, j, s, nil)
			checkRows(t, j, 1-s, []side.Met{{Row: m, Before: 1}})

			alone := api.Row{Key: 2, Time: 10 - last}
			want = nil
			if told(mode, s) {
				want = append(want, comes(row.Lone(s, alone)))
			}
			checkFeed(t, j, s, alone, want...)
			checkRows(t, j, s, nil)

			above := at(10 - last + 1)
			checkFeed(t, j, s, above, comes(paired(s, above, m)))
			checkRows(t, j, s, []side.Met{{Row: above, Before: 1}})
		}
	}
}

// full is a join of which a side holds MaxRows rows of key 1, and the other one a row, of time 50, that met none; the other side's mark is 40.
func full(t *testing.T, s int) (*Join, []side.Met) {
	t.Helper()
	j := made(t, -2, 2, api.Full)
	var rows []side.Met
	for i := range api.MaxRows {
		r := at(100 + i)
		feed(t, j, s, r)
		rows = append(rows, side.Met{Row: r})
	}
	feed(t, j, 1-s, at(50))
	checkMove(t, j, 1-s, 40, api.OK)
	checkRows(t, j, s, rows)
	return j, rows
}

// TestFull covers promise 5.2: one that would be held is refused where MaxRows are, and nothing is changed (P2): what it would have met met none.
func TestFull(t *testing.T) {
	for s := range 2 {
		j, rows := full(t, s)
		for _, r := range []api.Row{at(50), at(39), at(105), {Key: 2, Time: 50}} {
			checkFeedFails(t, j, s, r, api.ErrFull)
			checkRows(t, j, s, rows)
			checkRows(t, j, 1-s, []side.Met{{Row: at(50)}})
		}
		checkFeedFails(t, j, s, api.Row{Key: 1, Time: 50, Value: api.MaxTime + 1}, api.ErrArg)
		checkLate(t, j, 0)
		// The other side has room.
		feed(t, j, 1-s, at(60))
		checkHeld(t, j, 1-s, 2)
		// Late is told ahead of full.
		checkMove(t, j, s, 41, api.OK)
		checkFeedFails(t, j, s, at(41), api.ErrOrder)
		checkLate(t, j, 1)
		checkRows(t, j, s, rows)
	}
}

// TestFullButNeedNotBeHeld covers promise 5.2: such a row is not refused where MaxRows are held, it meets as any other.
func TestFullButNeedNotBeHeld(t *testing.T) {
	for s := range 2 {
		j, rows := full(t, s)
		checkMove(t, j, 1-s, 52, api.OK)
		checkFeed(t, j, s, at(50), goes(row.Lone(1-s, at(50))), comes(row.Pair(at(50), at(50))))
		checkFeed(t, j, s, at(40), comes(row.Lone(s, at(40))))
		checkFeedFails(t, j, s, at(51), api.ErrFull)
		checkRows(t, j, s, rows)
		checkRows(t, j, 1-s, []side.Met{{Row: at(50), Before: 1}})
		// Some go, so that there is room for just so many.
		checkMove(t, j, 1-s, 102, api.OK)
		checkHeld(t, j, s, api.MaxRows-1)
		checkFeed(t, j, s, at(101), comes(row.Lone(s, at(101))))
		checkFeedFails(t, j, s, at(101), api.ErrFull)
		checkHeld(t, j, s, api.MaxRows)
	}
}

// TestMove covers promise 5.2: a mark that drops none, some and all of the other side, of whichever key, by the last time that each may meet; none of its own.
func TestMove(t *testing.T) {
	spans := [][2]int{{0, 5}, {-2, 3}, {4, 6}, {-6, -4}, {-api.MaxSpan, api.MaxSpan}, {0, 0}}
	times := []int{1, 3, 3, 8}
	for _, span := range spans {
		for s := range 2 {
			last := span[1]
			if s == api.Right {
				last = -span[0]
			}
			for _, c := range []struct{ past, dropped int }{{-9, 0}, {0, 0}, {1, 1}, {2, 1}, {3, 3}, {7, 3}, {8, 4}, {99, 4}} {
				j := made(t, span[0], span[1], api.Full)
				var mine, others []side.Met
				for i, time := range times {
					r := api.Row{Key: i, Time: time}
					put(t, j, s, r, i)
					put(t, j, 1-s, r, i)
					mine = append(mine, side.Met{Row: r, Before: i})
				}
				others = slices.Clone(mine)
				checkMove(t, j, 1-s, c.past+last, api.OK)
				checkRows(t, j, s, mine[c.dropped:])
				checkRows(t, j, 1-s, others)
				checkMark(t, j, 1-s, c.past+last)
				checkMark(t, j, s, start)
			}
		}
	}
}

// TestMoveAgain covers promise 5.2: a mark may stay, which drops what was put since; it goes no further back.
func TestMoveAgain(t *testing.T) {
	for s := range 2 {
		j := made(t, 0, 0, api.Full)
		checkMove(t, j, 1-s, 10, api.OK)
		put(t, j, s, at(10), 0)
		put(t, j, s, at(11), 0)
		checkMove(t, j, 1-s, 9, api.ErrOrder)
		checkHeld(t, j, s, 2)
		checkMove(t, j, 1-s, 10, api.OK)
		checkRows(t, j, s, []side.Met{{Row: at(11)}})
	}
}

// TestMoveWrong covers promise 5.2: mark's errors, the first one first; nothing is changed then (P2).
func TestMoveWrong(t *testing.T) {
	j := made(t, 0, 0, api.Full)
	checkMove(t, j, api.Left, 10, api.OK)
	checkMove(t, j, api.Right, 20, api.OK)
	put(t, j, api.Left, at(5), 0)
	put(t, j, api.Right, at(5), 0)
	cases := []struct {
		s, time int
		want    api.Errno
	}{
		{-1, 30, api.ErrArg},
		{2, 30, api.ErrArg},
		{math.MinInt, math.MinInt, api.ErrArg},
		{math.MaxInt, math.MaxInt, api.ErrArg},
		{api.Left, api.MaxTime + 1, api.ErrRange},
		{api.Right, -api.MaxTime - 1, api.ErrRange},
		{api.Left, math.MaxInt, api.ErrRange},
		{api.Right, math.MinInt, api.ErrRange},
		{api.Left, 9, api.ErrOrder},
		{api.Right, 19, api.ErrOrder},
		{api.Right, -api.MaxTime, api.ErrOrder},
	}
	for _, c := range cases {
		checkMove(t, j, c.s, c.time, c.want)
		checkJoin(t, j, []side.Met{{Row: at(5)}}, []side.Met{{Row: at(5)}})
		checkRest(t, j, 10, 20, 0)
	}
}

// TestMoveToTheEnd covers promise 5.2: behind a mark at MaxTime those rows are held alone that may meet later times, which none has.
func TestMoveToTheEnd(t *testing.T) {
	j := made(t, -api.MaxSpan, api.MaxSpan, api.Full)
	for s := range 2 {
		feed(t, j, s, at(-api.MaxTime))
		feed(t, j, s, at(api.MaxTime-api.MaxSpan))
		feed(t, j, s, at(api.MaxTime-api.MaxSpan+1))
	}
	for s := range 2 {
		checkMove(t, j, s, api.MaxTime, api.OK)
	}
	want := []side.Met{{Row: at(api.MaxTime - api.MaxSpan + 1), Before: 2}}
	checkJoin(t, j, want, want)
}

// TestDroppedMeetsNone covers promise 5.2: what was dropped could have met none; a row that comes again is a row as any other.
func TestDroppedMeetsNone(t *testing.T) {
	j := made(t, 0, 5, api.Full)
	feed(t, j, api.Left, at(10))
	checkMove(t, j, api.Right, 15, api.OK)
	checkFeed(t, j, api.Right, at(16), comes(row.Lone(api.Right, at(16))))
	checkFeed(t, j, api.Left, at(10), comes(row.Lone(api.Left, at(10))))
	checkJoin(t, j, nil, []side.Met{{Row: at(16)}})
}

// TestNoSide covers promise 5.3: of what is no side nothing is held, no rows are told, and the mark is that of 3.1; Put is refused.
func TestNoSide(t *testing.T) {
	j := made(t, 0, 5, api.Full)
	for s := range 2 {
		feed(t, j, s, at(20))
		checkMove(t, j, s, 9, api.OK)
	}
	for _, s := range []int{-1, 2, math.MinInt, math.MaxInt} {
		checkHeld(t, j, s, 0)
		checkRows(t, j, s, nil)
		checkMark(t, j, s, start)
		checkError(t, "Put", j.Put(s, at(20), 0), api.ErrArg)
		checkError(t, "Put", j.Put(s, at(20), -1), api.ErrArg)
	}
	checkJoin(t, j, []side.Met{{Row: at(20), Before: 1}}, []side.Met{{Row: at(20), Before: 1}})
}

// TestPut covers promise 5.3: a row is held as one that met so many, whatever the marks are, and meets as such; it meets none by being put.
func TestPut(t *testing.T) {
	for s := range 2 {
		j := made(t, 0, 0, api.Full)
		checkMove(t, j, s, 9, api.OK)
		checkMove(t, j, 1-s, 4, api.OK)
		put(t, j, 1-s, at(5), 0)
		put(t, j, s, at(5), 0)
		put(t, j, s, at(5), 3)
		put(t, j, s, at(1), 2)
		checkRows(t, j, s, []side.Met{{Row: at(1), Before: 2}, {Row: at(5)}, {Row: at(5), Before: 3}})
		checkRows(t, j, 1-s, []side.Met{{Row: at(5)}})
		checkLate(t, j, 0)
		pair := comes(row.Pair(at(5), at(5)))
		checkFeed(t, j, 1-s, at(5), goes(row.Lone(s, at(5))), pair, pair)
		checkRows(t, j, s, []side.Met{{Row: at(1), Before: 2}, {Row: at(5), Before: 1}, {Row: at(5), Before: 4}})
	}
}

// TestPutWrong covers promise 5.3: Add's errors; nothing is changed then (P2).
func TestPutWrong(t *testing.T) {
	for s := range 2 {
		j, rows := full(t, s)
		checkError(t, "Put", j.Put(s, at(50), 0), api.ErrFull)
		checkError(t, "Put", j.Put(s, at(-api.MaxTime), 0), api.ErrFull)
		checkError(t, "Put", j.Put(s, at(50), -1), api.ErrArg)
		checkError(t, "Put", j.Put(1-s, at(50), -1), api.ErrArg)
		for _, n := range []int{api.MaxTime + 1, -api.MaxTime - 1, math.MaxInt, math.MinInt} {
			for _, r := range []api.Row{{Key: n}, {Time: n}, {Value: n}} {
				checkError(t, "Put", j.Put(s, r, 0), api.ErrArg)
				checkError(t, "Put", j.Put(1-s, r, 0), api.ErrArg)
			}
		}
		checkRows(t, j, s, rows)
		checkRows(t, j, 1-s, []side.Met{{Row: at(50)}})
	}
}

// TestLateness covers promise 5.3: Late is what it is set to, 0 below that, and goes on from there.
func TestLateness(t *testing.T) {
	j := made(t, 0, 0, api.Full)
	checkMove(t, j, api.Left, 10, api.OK)
	for _, c := range []struct{ n, want int }{{5, 5}, {0, 0}, {7, 7}, {-1, 0}, {1, 1}, {math.MinInt, 0}, {math.MaxInt - 1, math.MaxInt - 1}} {
		j.Lateness(c.n)
		checkLate(t, j, c.want)
		checkFeedFails(t, j, api.Left, at(10), api.ErrOrder)
		checkLate(t, j, c.want+1)
	}
	// There is no number beyond the last one: it stays, and never comes to one below 0.
	checkFeedFails(t, j, api.Left, at(10), api.ErrOrder)
	checkLate(t, j, math.MaxInt)
}

// TestAnswersAreTheCallers covers P4: what is written into an answer is seen in no other one, nor in the join; nor is what comes later seen in an answer.
func TestAnswersAreTheCallers(t *testing.T) {
	j := made(t, -2, 2, api.Full)
	feed(t, j, api.Left, at(5))
	feed(t, j, api.Left, at(6))
	changes := feed(t, j, api.Right, at(6))
	want := slices.Clone(changes)
	rows, others := j.Rows(api.Left), j.Rows(api.Left)
	held := []side.Met{{Row: at(5), Before: 1}, {Row: at(6), Before: 1}}
	for i := range rows[:cap(rows)] {
		rows[:cap(rows)][i] = side.Met{Row: at(-9), Before: -9}
	}
	checkMets(t, others, held)
	checkJoin(t, j, held, []side.Met{{Row: at(6), Before: 2}})
	feed(t, j, api.Right, at(7))
	checkMove(t, j, api.Right, 20, api.OK)
	checkMets(t, others, held)
	if !slices.Equal(changes, want) {
		t.Errorf("what Feed told is %v by now, was %v", changes, want)
	}
}

// TestTwoJoins: each has its own.
func TestTwoJoins(t *testing.T) {
	a, b := made(t, 0, 5, api.Full), made(t, 0, 5, api.Full)
	feed(t, a, api.Left, at(10))
	checkMove(t, b, api.Right, 30, api.OK)
	b.Lateness(3)
	checkFeed(t, b, api.Left, at(10), comes(row.Lone(api.Left, at(10))))
	checkJoin(t, a, []side.Met{{Row: at(10)}}, nil)
	checkRest(t, a, start, start, 0)
	checkJoin(t, b, nil, nil)
	checkRest(t, b, start, 30, 3)
}

// plainJoin is a join told plainly: it looks at every row that is held, and remembers all that were ever taken.
type plainJoin struct {
	plan  api.Plan
	marks [2]int
	held  [2][]side.Met
	ever  [2][]api.Row
	late  int
}

// last is the last time that a row of a side may meet.
func (p *plainJoin) last(s int, r api.Row) int {
	if s == api.Left {
		return r.Time + p.plan.High
	}
	return r.Time - p.plan.Low
}

func (p *plainJoin) meets(s int, r, other api.Row) bool {
	if s == api.Left {
		return row.Meets(p.plan, r, other)
	}
	return row.Meets(p.plan, other, r)
}

func (p *plainJoin) feed(s int, r api.Row) ([]api.Change, api.Errno) {
	stays := p.last(s, r) > p.marks[1-s]
	switch {
	case r.Time <= p.marks[s]:
		p.late++
		return nil, api.ErrOrder
	case stays && len(p.held[s]) >= api.MaxRows:
		return nil, api.ErrFull
	}
	var changes []api.Change
	met := 0
	for i, m := range p.held[1-s] {
		if !p.meets(s, r, m.Row) {
			continue
		}
		if m.Before == 0 && told(p.plan.Mode, 1-s) {
			changes = append(changes, goes(row.Lone(1-s, m.Row)))
		}
		changes = append(changes, comes(paired(s, r, m.Row)))
		p.held[1-s][i].Before++
		met++
	}
	if met == 0 && told(p.plan.Mode, s) {
		changes = append(changes, comes(row.Lone(s, r)))
	}
	p.ever[s] = append(p.ever[s], r)
	if stays {
		p.held[s] = append(p.held[s], side.Met{Row: r, Before: met})
		slices.SortStableFunc(p.held[s], func(a, b side.Met) int {
			return cmp.Or(cmp.Compare(a.Row.Key, b.Row.Key), cmp.Compare(a.Row.Time, b.Row.Time))
		})
	}
	return changes, api.OK
}

func (p *plainJoin) move(s, time int) api.Errno {
	if time < p.marks[s] {
		return api.ErrOrder
	}
	p.marks[s] = time
	p.held[1-s] = slices.DeleteFunc(p.held[1-s], func(m side.Met) bool { return p.last(1-s, m.Row) <= time })
	return api.OK
}

// view is what all rows that were ever taken come to, in order.
func (p *plainJoin) view() []api.Out {
	var all []api.Out
	alone := func(s int, r api.Row) bool {
		return !slices.ContainsFunc(p.ever[1-s], func(o api.Row) bool { return p.meets(s, r, o) })
	}
	for s := range 2 {
		for _, r := range p.ever[s] {
			if told(p.plan.Mode, s) && alone(s, r) {
				all = append(all, row.Lone(s, r))
			}
		}
	}
	for _, l := range p.ever[api.Left] {
		for _, r := range p.ever[api.Right] {
			if row.Meets(p.plan, l, r) {
				all = append(all, row.Pair(l, r))
			}
		}
	}
	slices.SortFunc(all, row.CompareOut)
	return all
}

// TestCameMetAndWent covers promises 5.1 to 5.3: behind each call all that is told is what a plain join tells, and at the end what was told comes to what all rows come to, whatever was dropped.
func TestCameMetAndWent(t *testing.T) {
	drawn := uint32(1)
	draw := func(most int) int {
		drawn = drawn*1664525 + 1013904223
		return int(drawn>>8) % most
	}
	for range 200 {
		p := api.Plan{Low: draw(21) - 10, Mode: draw(4)}
		p.High = p.Low + draw(15)
		j := made(t, p.Low, p.High, p.Mode)
		plain := &plainJoin{plan: p, marks: [2]int{start, start}}
		var view bag.Bag
		for range 150 {
			s := draw(2)
			if draw(8) == 0 {
				time := max(plain.marks[s], -5) + draw(8) - 1
				checkMove(t, j, s, time, plain.move(s, time))
			} else {
				r := api.Row{Key: draw(3), Time: max(plain.marks[s], -5) + draw(30) - 3, Value: draw(3)}
				checkFeedAsPlainly(t, j, plain, &view, s, r)
			}
			checkJoin(t, j, plain.held[api.Left], plain.held[api.Right])
			checkRest(t, j, plain.marks[api.Left], plain.marks[api.Right], plain.late)
		}
		if got, want := view.All(), plain.view(); !slices.Equal(got, want) {
			t.Fatalf("by %v all comes to %v, want %v", p, got, want)
		}
	}
}

func checkFeedAsPlainly(t *testing.T, j *Join, plain *plainJoin, view *bag.Bag, s int, r api.Row) {
	t.Helper()
	want, wrong := plain.feed(s, r)
	if wrong != api.OK {
		checkFeedFails(t, j, s, r, wrong)
		return
	}
	checkFeed(t, j, s, r, want...)
	for _, c := range want {
		if err := view.Apply(c); err != nil {
			t.Fatalf("%v goes, which was not there", c.Out)
		}
	}
}

// paired is the pair of a row of a side and one of the other side.
func paired(s int, r, other api.Row) api.Out {
	if s == api.Left {
		return row.Pair(r, other)
	}
	return row.Pair(other, r)
}

// feed lets a row come that is not refused.
func feed(t *testing.T, j *Join, s int, r api.Row) []api.Change {
	t.Helper()
	changes, err := j.Feed(s, r)
	checkError(t, "Feed", err, api.OK)
	return changes
}

func put(t *testing.T, j *Join, s int, r api.Row, met int) {
	t.Helper()
	checkError(t, "Put", j.Put(s, r, met), api.OK)
}

func checkFeed(t *testing.T, j *Join, s int, r api.Row, want ...api.Change) {
	t.Helper()
	if got := feed(t, j, s, r); !slices.Equal(got, want) {
		t.Fatalf("by %v Feed(%d, %v) = %v, want %v", j.plan, s, r, got, want)
	}
}

func checkFeedFails(t *testing.T, j *Join, s int, r api.Row, want api.Errno) {
	t.Helper()
	changes, err := j.Feed(s, r)
	checkError(t, "Feed", err, want)
	if len(changes) != 0 {
		t.Fatalf("Feed(%d, %v) tells %v beside its error", s, r, changes)
	}
}

func checkMove(t *testing.T, j *Join, s, time int, want api.Errno) {
	t.Helper()
	checkError(t, "Move", j.Move(s, time), want)
}

func checkError(t *testing.T, of string, err error, want api.Errno) {
	t.Helper()
	if got := api.Tell(err); got != want {
		t.Fatalf("%s: %v, want %v", of, got, want)
	}
	var placed *api.At
	if errors.As(err, &placed) {
		t.Errorf("%s: its error has a place", of)
	}
}

// checkJoin looks at both sides' rows.
func checkJoin(t *testing.T, j *Join, lefts, rights []side.Met) {
	t.Helper()
	checkRows(t, j, api.Left, lefts)
	checkRows(t, j, api.Right, rights)
}

// checkRest looks at both marks, and at how many were late.
func checkRest(t *testing.T, j *Join, left, right, late int) {
	t.Helper()
	checkMark(t, j, api.Left, left)
	checkMark(t, j, api.Right, right)
	checkLate(t, j, late)
}

func checkRows(t *testing.T, j *Join, s int, want []side.Met) {
	t.Helper()
	checkHeld(t, j, s, len(want))
	checkMets(t, j.Rows(s), want)
}

func checkMets(t *testing.T, got, want []side.Met) {
	t.Helper()
	if !slices.Equal(got, want) {
		t.Fatalf("Rows = %v, want %v", got, want)
	}
}

func checkHeld(t *testing.T, j *Join, s, want int) {
	t.Helper()
	if got := j.Held(s); got != want {
		t.Fatalf("Held(%d) = %d, want %d", s, got, want)
	}
}

func checkMark(t *testing.T, j *Join, s, want int) {
	t.Helper()
	if got := j.Mark(s); got != want {
		t.Fatalf("Mark(%d) = %d, want %d", s, got, want)
	}
}

func checkLate(t *testing.T, j *Join, want int) {
	t.Helper()
	if got := j.Late(); got != want {
		t.Fatalf("Late() = %d, want %d", got, want)
	}
}

package engine

import (
	"errors"
	"math"
	"slices"
	"testing"

	"estuary/api"
	"estuary/row"
	"estuary/side"
)

// first is a mark as it is at first (promise 3.1).
const first = -api.MaxTime - 1

// noSides are numbers that are none.
var noSides = [4]int{-1, 2, math.MinInt, math.MaxInt}

// modes are all of them.
var modes = [4]int{api.Inner, api.LeftOuter, api.RightOuter, api.Full}

// die tells numbers that look drawn, the same ones each time.
type die uint32

// below is a number from 0 on below another one.
func (d *die) below(most int) int {
	*d = *d*1664525 + 1013904223
	return int(*d>>8) % most
}

// fedRow is a row of a side that was let in.
type fedRow struct {
	side int
	row  api.Row
}

// at is a row of key 1 whose value is its time's.
func at(time int) api.Row {
	return api.Row{Key: 1, Time: time, Value: time % 100}
}

func comes(x api.Out) api.Change { return api.Change{Out: x} }

func goes(x api.Out) api.Change { return api.Change{Out: x, Gone: true} }

// made is an engine of a plan that may be.
func made(t *testing.T, low, high, mode int) *Engine {
	t.Helper()
	e, err := New(api.Plan{Low: low, High: high, Mode: mode})
	if err != nil || e == nil {
		t.Fatalf("New(%d, %d, %d) = %v, %v", low, high, mode, e, err)
	}
	return e
}

// TestNew covers promise 7.1: nothing is fed, held, late, in the view or in groups, and the marks are as they are at first.
func TestNew(t *testing.T) {
	for _, mode := range modes {
		e := made(t, -api.MaxSpan, api.MaxSpan, mode)
		checkNumbers(t, e, [2]int{}, 0, [2]int{first, first})
		checkRows(t, e, nil, nil)
		checkView(t, e)
	}
}

// TestNewWrong covers promise 7.1: of a plan that may not be Check's errors, the first one told (P3), and no engine (P2).
func TestNewWrong(t *testing.T) {
	cases := []struct {
		low, high, mode int
		want            api.Errno
	}{
		{-api.MaxSpan - 1, 0, api.Full, api.ErrRange},
		{0, api.MaxSpan + 1, api.Full, api.ErrRange},
		{math.MinInt, math.MaxInt, api.Full, api.ErrRange},
		{1, 0, api.Full, api.ErrOrder},
		{0, 0, -1, api.ErrArg},
		{0, 0, 4, api.ErrArg},
		{api.MaxSpan + 1, 0, 4, api.ErrRange},
		{1, 0, 4, api.ErrOrder},
	}
	for _, c := range cases {
		e, err := New(api.Plan{Low: c.low, High: c.high, Mode: c.mode})
		checkError(t, "New", err, c.want)
		if e != nil {
			t.Errorf("New(%d, %d, %d) makes an engine beside its error", c.low, c.high, c.mode)
		}
	}
}

// TestExample covers promise 7.1 by the document's example: what Feed tells is in the view, and in the groups.
func TestExample(t *testing.T) {
	e := made(t, 0, 5, api.LeftOuter)
	l, r := at(10), at(12)
	alone := row.Lone(api.Left, l)
	checkFeed(t, e, api.Left, l, comes(alone))
	checkView(t, e, alone)
	checkGroups(t, e, api.Group{Key: 1, Count: 1, Sum: 10})
	checkFeed(t, e, api.Right, r, goes(alone), comes(row.Pair(l, r)))
	checkView(t, e, row.Pair(l, r))
	checkGroups(t, e, api.Group{Key: 1, Count: 1, Sum: 10, Least: 12, Most: 12, Some: true})
	checkRows(t, e, []side.Met{{Row: l, Before: 1}}, []side.Met{{Row: r, Before: 1}})
	checkNumbers(t, e, [2]int{1, 1}, 0, [2]int{first, first})
}

// TestMeetsSeveral covers promise 7.1: a row that meets several that met none: each of them alone goes, and its pair comes, in the view and in the groups.
func TestMeetsSeveral(t *testing.T) {
	e := made(t, -2, 2, api.Full)
	a, b, c, x := at(4), at(6), at(8), at(6)
	other := api.Row{Key: 0, Time: 6, Value: -1}
	for _, r := range []api.Row{c, other, a, b} {
		checkFeed(t, e, api.Left, r, comes(row.Lone(api.Left, r)))
	}
	checkView(t, e, row.Lone(api.Left, other), row.Lone(api.Left, a), row.Lone(api.Left, b), row.Lone(api.Left, c))
	checkFeed(t, e, api.Right, x,
		goes(row.Lone(api.Left, a)), comes(row.Pair(a, x)),
		goes(row.Lone(api.Left, b)), comes(row.Pair(b, x)),
		goes(row.Lone(api.Left, c)), comes(row.Pair(c, x)))
	checkView(t, e, row.Lone(api.Left, other), row.Pair(a, x), row.Pair(b, x), row.Pair(c, x))
	checkGroups(t, e,
		api.Group{Key: 0, Count: 1, Sum: -1},
		api.Group{Key: 1, Count: 3, Sum: 18, Least: 6, Most: 6, Some: true})
	checkNumbers(t, e, [2]int{4, 1}, 0, [2]int{first, first})
}

// TestSameTwice covers promises 7.1 and 7.3: rows that are the same are two, and so are their pairs.
func TestSameTwice(t *testing.T) {
	e := made(t, 0, 0, api.Full)
	r := at(5)
	feed(t, e, api.Left, r)
	feed(t, e, api.Left, r)
	checkView(t, e, row.Lone(api.Left, r), row.Lone(api.Left, r))
	feed(t, e, api.Right, r)
	checkView(t, e, row.Pair(r, r), row.Pair(r, r))
	checkGroups(t, e, api.Group{Key: 1, Count: 2, Sum: 10, Least: 5, Most: 5, Some: true})
}

// TestLate covers promise 7.1: a row that is late is fed, too, and changes nothing but these two numbers (P2).
func TestLate(t *testing.T) {
	for s := range 2 {
		e := made(t, -9, 9, api.Full)
		feed(t, e, 1-s, at(10))
		checkError(t, "Move", e.Move(s, 10), api.OK)
		checkFeedFails(t, e, s, at(10), api.ErrOrder)
		checkFeedFails(t, e, s, at(-api.MaxTime), api.ErrOrder)
		fed, marks, rows := [2]int{}, [2]int{first, first}, [2][]side.Met{}
		fed[s], fed[1-s], marks[s] = 2, 1, 10
		rows[1-s] = []side.Met{{Row: at(10)}}
		checkNumbers(t, e, fed, 2, marks)
		checkRows(t, e, rows[api.Left], rows[api.Right])
		checkView(t, e, row.Lone(1-s, at(10)))

		feed(t, e, s, at(11))
		fed[s] = 3
		checkNumbers(t, e, fed, 2, marks)
	}
}

// TestFeedWrong covers promise 7.1: what is no side, and a row that is not good, is refused ahead of all else, is not fed, and changes nothing (P2).
func TestFeedWrong(t *testing.T) {
	e := made(t, -2, 2, api.Full)
	feed(t, e, api.Left, at(5))
	checkError(t, "Move", e.Move(api.Left, 9), api.OK)
	for _, s := range noSides {
		checkFeedFails(t, e, s, at(6), api.ErrArg)
		checkFeedFails(t, e, s, at(-api.MaxTime-1), api.ErrArg)
	}
	for _, n := range []int{api.MaxTime + 1, -api.MaxTime - 1, math.MaxInt, math.MinInt} {
		for s := range 2 {
			checkFeedFails(t, e, s, api.Row{Key: n, Time: 6}, api.ErrArg)
			checkFeedFails(t, e, s, api.Row{Key: 1, Time: n}, api.ErrArg)
			checkFeedFails(t, e, s, api.Row{Key: 1, Time: 6, Value: n}, api.ErrArg)
		}
	}
	checkNumbers(t, e, [2]int{1, 0}, 0, [2]int{9, first})
	checkRows(t, e, []side.Met{{Row: at(5)}}, nil)
	checkView(t, e, row.Lone(api.Left, at(5)))
}

// TestFull covers promise 7.1: a row for which there is no room is not fed, and changes nothing; one that is late is told so first, and is fed; one that need not be held is taken.
func TestFull(t *testing.T) {
	for s := range 2 {
		e := made(t, 0, 0, api.Full)
		feed(t, e, 1-s, at(7))
		checkError(t, "Move", e.Move(s, 0), api.OK)
		for i := range api.MaxRows {
			feed(t, e, s, api.Row{Key: 2, Time: 1 + i})
		}
		before := all(e)
		checkFeedFails(t, e, s, at(7), api.ErrFull)
		checkSame(t, all(e), before)
		if got := e.Fed(s); got != api.MaxRows {
			t.Errorf("Fed(%d) = %d, want %d", s, got, api.MaxRows)
		}
		checkFeedFails(t, e, s, at(0), api.ErrOrder)
		if got := e.Fed(s); got != api.MaxRows+1 {
			t.Errorf("Fed(%d) = %d behind one that was late, want %d", s, got, api.MaxRows+1)
		}
		// All that are held, and a row at this time, may meet none any more: there is room for those behind it.
		checkError(t, "Move", e.Move(1-s, api.MaxRows), api.OK)
		feed(t, e, s, at(7))
		if got := e.Held(s); got != 0 {
			t.Errorf("Held(%d) = %d, want 0", s, got)
		}
	}
}

// TestMove covers promise 7.1: Move's errors, the first one told (P3), which change nothing; and what is dropped of the other side.
func TestMove(t *testing.T) {
	for s := range 2 {
		e := made(t, 0, 0, api.Full)
		feed(t, e, 1-s, at(10))
		feed(t, e, 1-s, at(11))
		for _, none := range noSides {
			checkError(t, "Move", e.Move(none, 10), api.ErrArg)
			checkError(t, "Move", e.Move(none, api.MaxTime+1), api.ErrArg)
		}
		for _, time := range []int{api.MaxTime + 1, -api.MaxTime - 1, math.MaxInt, math.MinInt} {
			checkError(t, "Move", e.Move(s, time), api.ErrRange)
		}
		checkHeld(t, e, 1-s, 2)
		checkError(t, "Move", e.Move(s, 10), api.OK)
		checkHeld(t, e, 1-s, 1)
		checkError(t, "Move", e.Move(s, 9), api.ErrOrder)
		checkError(t, "Move", e.Move(s, 10), api.OK)
		if got := e.Mark(s); got != 10 {
			t.Errorf("Mark(%d) = %d, want 10", s, got)
		}
		if got := e.Mark(1 - s); got != first {
			t.Errorf("Mark(%d) = %d, want %d", 1-s, got, first)
		}
		// What is dropped stays in the view.
		checkView(t, e, row.Lone(1-s, at(10)), row.Lone(1-s, at(11)))
	}
}

// TestNoSide covers promise 7.1: what is no side has nothing fed, nothing held, and a mark as it is at first.
func TestNoSide(t *testing.T) {
	e := made(t, 0, 5, api.Full)
	for s := range 2 {
		feed(t, e, s, at(10))
		checkError(t, "Move", e.Move(s, 3), api.OK)
	}
	for _, s := range noSides {
		if e.Fed(s) != 0 || e.Held(s) != 0 || e.Mark(s) != first || len(e.Rows(s)) != 0 {
			t.Errorf("of %d: Fed %d, Held %d, Mark %d, Rows %v", s, e.Fed(s), e.Held(s), e.Mark(s), e.Rows(s))
		}
	}
}

// TestAnyOrder covers promise 7.3: the view, and the groups, are the same in whichever order rows came.
func TestAnyOrder(t *testing.T) {
	d := die(1)
	for _, mode := range modes {
		var rows []fedRow
		for range 60 {
			rows = append(rows, fedRow{d.below(2), api.Row{Key: d.below(3), Time: d.below(30), Value: d.below(9) - 4}})
		}
		p := api.Plan{Low: -3, High: 4, Mode: mode}
		want := should(p, rows)
		for range 10 {
			for i := range rows {
				j := d.below(i + 1)
				rows[i], rows[j] = rows[j], rows[i]
			}
			e := made(t, p.Low, p.High, p.Mode)
			for _, r := range rows {
				feed(t, e, r.side, r.row)
			}
			checkView(t, e, want...)
		}
	}
}

// TestRun covers promises 7.1 and 7.3: at each time of a run the view is what all rows that were let in come to, whatever was late, refused or dropped, saved and loaded; the groups are what the view comes to; and a pair never goes.
func TestRun(t *testing.T) {
	d := die(7)
	for range 60 {
		p := api.Plan{Low: d.below(15) - 7, Mode: d.below(4)}
		p.High = p.Low + d.below(9)
		checkRun(t, &d, p)
	}
}

func checkRun(t *testing.T, d *die, p api.Plan) {
	t.Helper()
	e := made(t, p.Low, p.High, p.Mode)
	var rows []fedRow
	fed, late, marks := [2]int{}, 0, [2]int{first, first}
	for now := range 60 {
		s := d.below(2)
		switch d.below(8) {
		case 0:
			marks[s] = max(marks[s], now-d.below(15))
			checkError(t, "Move", e.Move(s, marks[s]), api.OK)
		case 1:
			e = loaded(t, saved(t, e))
		default:
			r := api.Row{Key: d.below(2), Time: now + d.below(20) - 10, Value: d.below(5)}
			changes, err := e.Feed(s, r)
			fed[s]++
			if r.Time <= marks[s] {
				checkError(t, "Feed", err, api.ErrOrder)
				late++
				break
			}
			checkError(t, "Feed", err, api.OK)
			rows = append(rows, fedRow{s, r})
			checkNoPairGoes(t, changes)
		}
		checkNumbers(t, e, fed, late, marks)
		checkView(t, e, should(p, rows)...)
	}
}

func checkNoPairGoes(t *testing.T, changes []api.Change) {
	t.Helper()
	for _, c := range changes {
		if c.Gone && c.Out.HasLeft && c.Out.HasRight {
			t.Fatalf("the pair %v goes", c.Out)
		}
	}
}

// TestRefusedIsNotSeen covers promise 7.3: a row for which there was no room, one that is late and one that is not good are not in the view, and those that they would have met are as they were.
func TestRefusedIsNotSeen(t *testing.T) {
	e := made(t, -api.MaxSpan, api.MaxSpan, api.Full)
	feed(t, e, api.Right, at(3))
	checkError(t, "Move", e.Move(api.Left, 0), api.OK)
	for i := range api.MaxRows {
		feed(t, e, api.Left, api.Row{Key: 2, Time: 1 + i})
	}
	view := e.View()
	checkFeedFails(t, e, api.Left, at(3), api.ErrFull)
	checkFeedFails(t, e, api.Left, at(0), api.ErrOrder)
	checkFeedFails(t, e, api.Left, api.Row{Key: 1, Time: 3, Value: api.MaxTime + 1}, api.ErrArg)
	checkView(t, e, view...)
	checkMets(t, e.Rows(api.Right), []side.Met{{Row: at(3)}})
}

// TestMarksAtTheEnd covers promise 7.3: behind marks at MaxTime on both sides no row is held whose time is at most MaxTime - MaxSpan, whatever the plan; by the widest one those behind it are; and nothing comes any more.
func TestMarksAtTheEnd(t *testing.T) {
	const edge = api.MaxTime - api.MaxSpan
	for _, span := range [][2]int{{-api.MaxSpan, api.MaxSpan}, {api.MaxSpan, api.MaxSpan}, {-api.MaxSpan, -api.MaxSpan}, {0, 0}, {-3, 5}} {
		for order := range 2 {
			e := made(t, span[0], span[1], api.Full)
			for s := range 2 {
				for _, time := range []int{-api.MaxTime, 0, edge - 1, edge, edge + 1, api.MaxTime} {
					feed(t, e, s, at(time))
				}
			}
			view := e.View()
			for i := range 2 {
				checkError(t, "Move", e.Move((order+i)%2, api.MaxTime), api.OK)
			}
			for s := range 2 {
				for _, m := range e.Rows(s) {
					if m.Row.Time <= edge {
						t.Errorf("by %v %v is held", span, m.Row)
					}
				}
				checkFeedFails(t, e, s, at(api.MaxTime), api.ErrOrder)
			}
			checkView(t, e, view...)
		}
	}
	e := made(t, -api.MaxSpan, api.MaxSpan, api.Inner)
	for s := range 2 {
		feed(t, e, s, api.Row{Key: s, Time: edge})
		feed(t, e, s, api.Row{Key: s, Time: edge + 1})
	}
	checkError(t, "Move", e.Move(api.Left, api.MaxTime), api.OK)
	checkError(t, "Move", e.Move(api.Right, api.MaxTime), api.OK)
	checkRows(t, e, []side.Met{{Row: api.Row{Key: 0, Time: edge + 1}}}, []side.Met{{Row: api.Row{Key: 1, Time: edge + 1}}})
}

// TestAnswersAreTheCallers covers P4: what is written into an answer is not seen in the engine, nor in the next answer.
func TestAnswersAreTheCallers(t *testing.T) {
	e := made(t, 0, 5, api.Full)
	feed(t, e, api.Left, at(10))
	feed(t, e, api.Left, at(11))
	changes := feed(t, e, api.Right, at(12))
	before := all(e)
	clear(changes)
	clear(e.View())
	clear(e.Groups())
	for s := range 2 {
		clear(e.Rows(s))
		_ = append(e.Rows(s)[:0], side.Met{})
	}
	checkSame(t, all(e), before)
}

// TestTwoEngines covers P4: each has its own.
func TestTwoEngines(t *testing.T) {
	a, b := made(t, 0, 5, api.Full), made(t, 0, 5, api.Full)
	feed(t, a, api.Left, at(10))
	checkError(t, "Move", a.Move(api.Right, 5), api.OK)
	checkNumbers(t, b, [2]int{}, 0, [2]int{first, first})
	checkRows(t, b, nil, nil)
	checkView(t, b)
	feed(t, b, api.Right, at(3))
	checkNumbers(t, a, [2]int{1, 0}, 0, [2]int{first, 5})
	checkView(t, a, row.Lone(api.Left, at(10)))
}

// should is what rows come to by promise 7.3, pair by pair.
func should(p api.Plan, rows []fedRow) []api.Out {
	var outs []api.Out
	for i, a := range rows {
		met := 0
		for j, b := range rows {
			if i == j || a.side == b.side {
				continue
			}
			l, r := a.row, b.row
			if a.side == api.Right {
				l, r = r, l
			}
			if l.Key != r.Key || r.Time-l.Time < p.Low || r.Time-l.Time > p.High {
				continue
			}
			met++
			if a.side == api.Left {
				outs = append(outs, row.Pair(l, r))
			}
		}
		told := p.Mode == api.Full || p.Mode == api.LeftOuter && a.side == api.Left || p.Mode == api.RightOuter && a.side == api.Right
		if met == 0 && told {
			outs = append(outs, row.Lone(a.side, a.row))
		}
	}
	slices.SortFunc(outs, row.CompareOut)
	return outs
}

// groupsOf is what a view comes to by promise 6.1, in order, as a view is by its keys.
func groupsOf(view []api.Out) []api.Group {
	var all []api.Group
	for _, x := range view {
		if len(all) == 0 || all[len(all)-1].Key != x.Key {
			all = append(all, api.Group{Key: x.Key})
		}
		g := &all[len(all)-1]
		g.Count++
		if x.HasLeft {
			g.Sum += x.Left.Value
		}
		if x.HasRight {
			if !g.Some || x.Right.Value < g.Least {
				g.Least = x.Right.Value
			}
			if !g.Some || x.Right.Value > g.Most {
				g.Most = x.Right.Value
			}
			g.Some = true
		}
	}
	return all
}

// state is all that an engine tells.
type state struct {
	fed, held, marks [2]int
	late             int
	rows             [2][]side.Met
	view             []api.Out
	groups           []api.Group
}

func all(e *Engine) state {
	a := state{late: e.Late(), view: e.View(), groups: e.Groups()}
	for s := range 2 {
		a.fed[s], a.held[s], a.marks[s], a.rows[s] = e.Fed(s), e.Held(s), e.Mark(s), e.Rows(s)
	}
	return a
}

func checkSame(t *testing.T, got, want state) {
	t.Helper()
	same := got.fed == want.fed && got.held == want.held && got.marks == want.marks && got.late == want.late
	for s := range 2 {
		same = same && slices.Equal(got.rows[s], want.rows[s])
	}
	if !same || !slices.Equal(got.view, want.view) || !slices.Equal(got.groups, want.groups) {
		t.Fatalf("the engine tells %v, want %v", got, want)
	}
}

// feed lets a row come that is not refused.
func feed(t *testing.T, e *Engine, s int, r api.Row) []api.Change {
	t.Helper()
	changes, err := e.Feed(s, r)
	checkError(t, "Feed", err, api.OK)
	return changes
}

func checkFeed(t *testing.T, e *Engine, s int, r api.Row, want ...api.Change) {
	t.Helper()
	if got := feed(t, e, s, r); !slices.Equal(got, want) {
		t.Fatalf("Feed(%d, %v) = %v, want %v", s, r, got, want)
	}
}

func checkFeedFails(t *testing.T, e *Engine, s int, r api.Row, want api.Errno) {
	t.Helper()
	changes, err := e.Feed(s, r)
	checkError(t, "Feed", err, want)
	if len(changes) != 0 {
		t.Fatalf("Feed(%d, %v) tells %v beside its error", s, r, changes)
	}
}

// checkView looks at the groups, too: they are what the view comes to.
func checkView(t *testing.T, e *Engine, want ...api.Out) {
	t.Helper()
	if got := e.View(); !slices.Equal(got, want) {
		t.Fatalf("View = %v, want %v", got, want)
	}
	checkGroups(t, e, groupsOf(want)...)
}

func checkGroups(t *testing.T, e *Engine, want ...api.Group) {
	t.Helper()
	if got := e.Groups(); !slices.Equal(got, want) {
		t.Fatalf("Groups = %v, want %v", got, want)
	}
}

// checkNumbers looks at Fed, Late and Mark.
func checkNumbers(t *testing.T, e *Engine, fed [2]int, late int, marks [2]int) {
	t.Helper()
	for s := range 2 {
		if got := e.Fed(s); got != fed[s] {
			t.Fatalf("Fed(%d) = %d, want %d", s, got, fed[s])
		}
		if got := e.Mark(s); got != marks[s] {
			t.Fatalf("Mark(%d) = %d, want %d", s, got, marks[s])
		}
	}
	if got := e.Late(); got != late {
		t.Fatalf("Late() = %d, want %d", got, late)
	}
}

// checkRows looks at both sides' rows, and at how many they are.
func checkRows(t *testing.T, e *Engine, lefts, rights []side.Met) {
	t.Helper()
	checkHeld(t, e, api.Left, len(lefts))
	checkHeld(t, e, api.Right, len(rights))
	checkMets(t, e.Rows(api.Left), lefts)
	checkMets(t, e.Rows(api.Right), rights)
}

func checkMets(t *testing.T, got, want []side.Met) {
	t.Helper()
	if !slices.Equal(got, want) {
		t.Fatalf("Rows = %v, want %v", got, want)
	}
}

func checkHeld(t *testing.T, e *Engine, s, want int) {
	t.Helper()
	if got := e.Held(s); got != want {
		t.Fatalf("Held(%d) = %d, want %d", s, got, want)
	}
}

func checkError(t *testing.T, of string, err error, want api.Errno) {
	t.Helper()
	if got := api.Tell(err); got != want {
		t.Fatalf("%s: %v, want %v", of, got, want)
	}
	var placed *api.At
	if errors.As(err, &placed) {
		t.Errorf("%s: its error has a place", of)
	}
}

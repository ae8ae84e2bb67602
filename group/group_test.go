package group

import (
	"errors"
	"math"
	"math/big"
	"slices"
	"testing"

	"estuary/api"
	"estuary/row"
)

// both has a left and a right value, onlyLeft and onlyRight one of them, neither none.
func both(key, left, right int) api.Out {
	return row.Pair(api.Row{Key: key, Value: left}, api.Row{Key: key, Value: right})
}

func onlyLeft(key, value int) api.Out {
	return row.Lone(api.Left, api.Row{Key: key, Value: value})
}

func onlyRight(key, value int) api.Out {
	return row.Lone(api.Right, api.Row{Key: key, Value: value})
}

func neither(key int) api.Out {
	return api.Out{Key: key}
}

// TestZeroValue covers promise 6.1: at first there is none, of any key; what goes is not there, and leaves nothing.
func TestZeroValue(t *testing.T) {
	var g Groups
	checkGroups(t, &g)
	for _, key := range []int{math.MinInt, -1, 0, 1, api.MaxTime, math.MaxInt} {
		checkNone(t, &g, key)
		for _, x := range []api.Out{both(key, 1, 2), onlyLeft(key, 1), onlyRight(key, 0), neither(key)} {
			checkGone(t, &g, x, api.ErrNone)
			checkNone(t, &g, key)
			checkGroups(t, &g)
		}
	}
}

// TestOneMore covers promise 6.1: what one alone comes to, be it a left, a right, both or neither.
func TestOneMore(t *testing.T) {
	cases := []struct {
		name string
		out  api.Out
		want api.Group
	}{
		{"both", both(1, 7, 9), api.Group{Key: 1, Count: 1, Sum: 7, Least: 9, Most: 9, Some: true}},
		{"both, of values 0", both(1, 0, 0), api.Group{Key: 1, Count: 1, Some: true}},
		{"a left alone", onlyLeft(1, 7), api.Group{Key: 1, Count: 1, Sum: 7}},
		{"a left alone, below 0", onlyLeft(-1, -7), api.Group{Key: -1, Count: 1, Sum: -7}},
		{"a right alone", onlyRight(1, 9), api.Group{Key: 1, Count: 1, Least: 9, Most: 9, Some: true}},
		{"a right alone, below 0", onlyRight(0, -9), api.Group{Count: 1, Least: -9, Most: -9, Some: true}},
		{"a right alone, of value 0", onlyRight(1, 0), api.Group{Key: 1, Count: 1, Some: true}},
		{"neither", neither(1), api.Group{Key: 1, Count: 1}},
	}
	for _, c := range cases {
		t.Run(c.name, func(t *testing.T) {
			var g Groups
			checkCame(t, &g, c.out)
			checkGroups(t, &g, c.want)
			checkNone(t, &g, c.want.Key+1)
			checkGone(t, &g, c.out, api.OK)
			checkNone(t, &g, c.want.Key)
			checkGroups(t, &g)
			checkGone(t, &g, c.out, api.ErrNone)
			checkCame(t, &g, c.out)
			checkGroups(t, &g, c.want)
		})
	}
}

// TestOddOnes covers promise 6.1, of Outs that Pair and Lone never tell: the key is the Out's, not a row's, and a row that it does not have says nothing, come or gone.
func TestOddOnes(t *testing.T) {
	var g Groups
	odd := api.Out{Key: 3, Left: api.Row{Key: 4, Time: 8, Value: 5}, Right: api.Row{Key: 6, Time: 8, Value: 7}}
	checkCame(t, &g, odd)
	checkGroups(t, &g, api.Group{Key: 3, Count: 1})
	odd.HasLeft = true
	checkCame(t, &g, odd)
	checkGroups(t, &g, api.Group{Key: 3, Count: 2, Sum: 5})
	odd.HasLeft, odd.HasRight = false, true
	checkCame(t, &g, odd)
	checkGroups(t, &g, api.Group{Key: 3, Count: 3, Sum: 5, Least: 7, Most: 7, Some: true})
	odd.HasRight = false
	odd.Right.Value = 99 // not among the right values, but not asked for
	checkGone(t, &g, odd, api.OK)
	checkGroups(t, &g, api.Group{Key: 3, Count: 2, Sum: 5, Least: 7, Most: 7, Some: true})
	odd.HasRight = true
	odd.Right = api.Row{Value: 7} // by its Value alone it is there
	checkGone(t, &g, odd, api.OK)
	checkGroups(t, &g, api.Group{Key: 3, Count: 1, Sum: 5})
}

// TestAllOfAKey covers promise 6.1: the sum is of the left values, the Least and the Most of the right ones.
func TestAllOfAKey(t *testing.T) {
	var g Groups
	checkCame(t, &g, both(1, 10, 5))
	checkCame(t, &g, both(1, 20, -5))
	checkCame(t, &g, onlyLeft(1, -100))
	checkGroups(t, &g, api.Group{Key: 1, Count: 3, Sum: -70, Least: -5, Most: 5, Some: true})
	checkCame(t, &g, onlyRight(1, 50))
	checkCame(t, &g, onlyRight(1, -50))
	checkCame(t, &g, onlyRight(1, 0))
	checkCame(t, &g, neither(1))
	checkGroups(t, &g, api.Group{Key: 1, Count: 7, Sum: -70, Least: -50, Most: 50, Some: true})
	checkGone(t, &g, onlyLeft(1, -100), api.OK)
	checkGone(t, &g, neither(1), api.OK)
	checkGroups(t, &g, api.Group{Key: 1, Count: 5, Sum: 30, Least: -50, Most: 50, Some: true})
}

// TestRightTwice covers promise 6.1: of a right value that is there twice, one goes: the other one is still there.
func TestRightTwice(t *testing.T) {
	var g Groups
	checkCame(t, &g, onlyRight(1, 5))
	checkCame(t, &g, both(1, 1, 5))
	checkCame(t, &g, onlyRight(1, 7))
	checkGone(t, &g, onlyRight(1, 5), api.OK)
	checkGroups(t, &g, api.Group{Key: 1, Count: 2, Sum: 1, Least: 5, Most: 7, Some: true})
	checkGone(t, &g, both(1, 1, 5), api.OK)
	checkGroups(t, &g, api.Group{Key: 1, Count: 1, Least: 7, Most: 7, Some: true})
	checkGone(t, &g, onlyRight(1, 5), api.ErrNone)
	checkGroups(t, &g, api.Group{Key: 1, Count: 1, Least: 7, Most: 7, Some: true})
}

// TestLeastAndMostGo covers promise 6.1: the next one is the least, or the most, then; and there is none when no right value is left.
func TestLeastAndMostGo(t *testing.T) {
	var g Groups
	checkCame(t, &g, onlyLeft(1, 4))
	for _, value := range []int{math.MinInt, -2, 0, 3, math.MaxInt} {
		checkCame(t, &g, onlyRight(1, value))
	}
	checkGroups(t, &g, api.Group{Key: 1, Count: 6, Sum: 4, Least: math.MinInt, Most: math.MaxInt, Some: true})
	checkGone(t, &g, onlyRight(1, math.MinInt), api.OK)
	checkGroups(t, &g, api.Group{Key: 1, Count: 5, Sum: 4, Least: -2, Most: math.MaxInt, Some: true})
	checkGone(t, &g, onlyRight(1, math.MaxInt), api.OK)
	checkGroups(t, &g, api.Group{Key: 1, Count: 4, Sum: 4, Least: -2, Most: 3, Some: true})
	checkGone(t, &g, onlyRight(1, 0), api.OK)
	checkGroups(t, &g, api.Group{Key: 1, Count: 3, Sum: 4, Least: -2, Most: 3, Some: true})
	checkGone(t, &g, onlyRight(1, 3), api.OK)
	checkGroups(t, &g, api.Group{Key: 1, Count: 2, Sum: 4, Least: -2, Most: -2, Some: true})
	checkGone(t, &g, onlyRight(1, -2), api.OK)
	checkGroups(t, &g, api.Group{Key: 1, Count: 1, Sum: 4})
	checkGone(t, &g, onlyRight(1, 0), api.ErrNone)
	checkGroups(t, &g, api.Group{Key: 1, Count: 1, Sum: 4})
}

// TestNoSuchRight covers promise 6.1: one that is Gone, whose right Value is not among the right values of its own key, changes nothing (P2): neither how many there are nor the sum.
func TestNoSuchRight(t *testing.T) {
	var g Groups
	checkCame(t, &g, both(1, 10, 5))
	checkCame(t, &g, onlyLeft(1, 6))
	checkCame(t, &g, onlyRight(2, 6))
	want := []api.Group{
		{Key: 1, Count: 2, Sum: 16, Least: 5, Most: 5, Some: true},
		{Key: 2, Count: 1, Least: 6, Most: 6, Some: true},
	}
	for _, x := range []api.Out{both(1, 10, 6), onlyRight(1, 6), onlyRight(1, 10), onlyRight(1, 0), both(2, 6, 5), onlyRight(2, 5), both(3, 0, 5)} {
		for range 3 {
			checkGone(t, &g, x, api.ErrNone)
			checkGroups(t, &g, want...)
		}
	}
	checkNone(t, &g, 3)
}

// TestNoSuchLeft covers promise 6.1: a left value is taken from the sum, whether it came or not.
func TestNoSuchLeft(t *testing.T) {
	var g Groups
	checkCame(t, &g, onlyLeft(1, 10))
	checkCame(t, &g, onlyRight(1, 3))
	checkGone(t, &g, onlyLeft(1, 12), api.OK)
	checkGroups(t, &g, api.Group{Key: 1, Count: 1, Sum: -2, Least: 3, Most: 3, Some: true})
}

// TestLastOne covers promise 6.1: behind the last one nothing is known of the key, whatever values it did not take with it; the key comes anew as if it had never been.
func TestLastOne(t *testing.T) {
	for _, last := range []api.Out{neither(1), onlyLeft(1, 1), onlyRight(1, 5), both(1, 3, 8)} {
		var g Groups
		checkCame(t, &g, both(1, 10, 5))
		checkCame(t, &g, both(1, 20, 8))
		checkCame(t, &g, onlyLeft(2, 2))
		checkGone(t, &g, neither(1), api.OK)
		checkGroups(t, &g, api.Group{Key: 1, Count: 1, Sum: 30, Least: 5, Most: 8, Some: true}, api.Group{Key: 2, Count: 1, Sum: 2})
		checkGone(t, &g, last, api.OK)
		checkNone(t, &g, 1)
		checkGroups(t, &g, api.Group{Key: 2, Count: 1, Sum: 2})
		for _, x := range []api.Out{neither(1), onlyLeft(1, 30), onlyRight(1, 5), onlyRight(1, 8)} {
			checkGone(t, &g, x, api.ErrNone)
		}
		checkCame(t, &g, neither(1))
		checkGroups(t, &g, api.Group{Key: 1, Count: 1}, api.Group{Key: 2, Count: 1, Sum: 2})
		checkGone(t, &g, onlyRight(1, 5), api.ErrNone)
		checkCame(t, &g, both(1, 4, 6))
		checkGroups(t, &g, api.Group{Key: 1, Count: 2, Sum: 4, Least: 6, Most: 6, Some: true}, api.Group{Key: 2, Count: 1, Sum: 2})
	}
}

// TestSumGoesRound covers promise 6.1: a sum is modulo 2^64, as a number from -2^63: at both ends, one beyond, and back.
func TestSumGoesRound(t *testing.T) {
	var g Groups
	came := func(value, sum, count int) {
		t.Helper()
		checkCame(t, &g, onlyLeft(1, value))
		checkGroups(t, &g, api.Group{Key: 1, Count: count, Sum: sum})
	}
	gone := func(value, sum, count int) {
		t.Helper()
		checkGone(t, &g, onlyLeft(1, value), api.OK)
		checkGroups(t, &g, api.Group{Key: 1, Count: count, Sum: sum})
	}
	came(math.MaxInt, math.MaxInt, 1)
	came(1, math.MinInt, 2)
	came(-1, math.MaxInt, 3)
	gone(-1, math.MinInt, 2)
	gone(1, math.MaxInt, 1)
	came(math.MaxInt, -2, 2)
	gone(math.MinInt, math.MaxInt-1, 1)
	came(math.MinInt, -2, 2)
	came(math.MinInt, math.MaxInt-1, 3)
	came(1, math.MaxInt, 4)
	came(2, math.MinInt+1, 5)
	gone(1, math.MinInt, 4)
	gone(1, math.MaxInt, 3)
}

// TestAllByKeys covers promise 6.1: however the keys came, they are told rising, those below 0 ahead.
func TestAllByKeys(t *testing.T) {
	keys := []int{math.MinInt, -api.MaxTime, -10, -9, -1, 0, 1, 2, 10, api.MaxTime, math.MaxInt}
	// By each of these steps, round and round, each of the 11 has its turn once.
	for _, step := range []int{1, 4, 7, 10} {
		var g Groups
		want := make([]api.Group, len(keys))
		for i := range keys {
			at := i * step % len(keys)
			checkCame(t, &g, both(keys[at], at, -at))
			want[at] = api.Group{Key: keys[at], Count: 1, Sum: at, Least: -at, Most: -at, Some: true}
		}
		checkGroups(t, &g, want...)
		checkGone(t, &g, both(0, 5, -5), api.OK)
		checkNone(t, &g, 0)
		checkGroups(t, &g, slices.Delete(want, 5, 6)...)
	}
}

// plainly is a key's group as plain lists: nothing is worked out ahead of being asked.
type plainly struct {
	count  int
	lefts  *big.Int
	rights []int
}

func (p *plainly) group(key int) api.Group {
	round := new(big.Int).Mod(p.lefts, new(big.Int).Lsh(big.NewInt(1), 64))
	g := api.Group{Key: key, Count: p.count, Sum: int(round.Uint64())}
	if len(p.rights) > 0 {
		g.Least, g.Most, g.Some = slices.Min(p.rights), slices.Max(p.rights), true
	}
	return g
}

// apply is promise 6.1, word by word.
func apply(groups map[int]*plainly, c api.Change) api.Errno {
	p := groups[c.Out.Key]
	left := big.NewInt(int64(c.Out.Left.Value))
	if !c.Gone {
		if p == nil {
			p = &plainly{lefts: new(big.Int)}
			groups[c.Out.Key] = p
		}
		p.count++
		if c.Out.HasLeft {
			p.lefts.Add(p.lefts, left)
		}
		if c.Out.HasRight {
			p.rights = append(p.rights, c.Out.Right.Value)
		}
		return api.OK
	}
	if p == nil {
		return api.ErrNone
	}
	if c.Out.HasRight {
		at := slices.Index(p.rights, c.Out.Right.Value)
		if at < 0 {
			return api.ErrNone
		}
		p.rights = slices.Delete(p.rights, at, at+1)
	}
	p.count--
	if c.Out.HasLeft {
		p.lefts.Sub(p.lefts, left)
	}
	if p.count == 0 {
		delete(groups, c.Out.Key)
	}
	return api.OK
}

// TestCameAndWent covers promise 6.1: behind each change all that is told is what plain lists tell.
func TestCameAndWent(t *testing.T) {
	values := []int{math.MinInt, -3, 0, 1, 2, math.MaxInt}
	keys := []int{-2, -1, 0, 7}
	drawn := uint32(1)
	draw := func(most int) int {
		drawn = drawn*1664525 + 1013904223
		return int(drawn>>8) % most
	}
	var g Groups
	model := make(map[int]*plainly)
	for range 4000 {
		c := api.Change{Gone: draw(2) == 0}
		c.Out = both(keys[draw(len(keys))], values[draw(len(values))], values[draw(len(values))])
		c.Out.HasLeft, c.Out.HasRight = draw(2) == 0, draw(2) == 0
		want := apply(model, c)
		if err := g.Apply(c); api.Tell(err) != want {
			t.Fatalf("Apply(%v) = %v, want %v", c, err, want)
		}
		var all []api.Group
		for _, key := range keys {
			if p := model[key]; p != nil {
				all = append(all, p.group(key))
			} else {
				checkNone(t, &g, key)
			}
		}
		checkGroups(t, &g, all...)
	}
}

// TestNothingIsLeft covers promise 6.1: what came and went leaves nothing, of a key or of a right value.
func TestNothingIsLeft(t *testing.T) {
	var g Groups
	checkCame(t, &g, neither(1))
	for value := range 100 {
		checkCame(t, &g, both(1, value, value))
		checkCame(t, &g, both(value+2, value, value))
	}
	for value := range 100 {
		checkGone(t, &g, both(1, value, value), api.OK)
		checkGone(t, &g, both(value+2, value, value), api.OK)
	}
	checkGroups(t, &g, api.Group{Key: 1, Count: 1})
	if many := len(g.tallies[1].rights); many != 0 {
		t.Errorf("%d right values are left of what came and went, want none", many)
	}
	if many := len(g.tallies); many != 1 {
		t.Errorf("%d keys are left, want 1", many)
	}
}

// TestAskingChangesNothing covers promise 6.1: Of a key that is not there leaves nothing.
func TestAskingChangesNothing(t *testing.T) {
	var g Groups
	checkNone(t, &g, 1)
	checkCame(t, &g, both(2, 3, 4))
	for range 2 {
		checkNone(t, &g, 1)
		checkGone(t, &g, neither(1), api.ErrNone)
		checkGroups(t, &g, api.Group{Key: 2, Count: 1, Sum: 3, Least: 4, Most: 4, Some: true})
	}
}

// TestAllIsTheCallers covers P4: what is written into an answer is seen in no other one.
func TestAllIsTheCallers(t *testing.T) {
	var g Groups
	checkCame(t, &g, onlyLeft(1, 3))
	checkCame(t, &g, onlyLeft(2, 4))
	want := []api.Group{{Key: 1, Count: 1, Sum: 3}, {Key: 2, Count: 1, Sum: 4}}
	first, second := g.All(), g.All()
	clear(first)
	_ = append(first[:1], api.Group{Key: 9})
	if !slices.Equal(second, want) {
		t.Errorf("All() = %v behind writing into another answer, want %v", second, want)
	}
	checkGroups(t, &g, want...)
}

// TestTwoGroups: each has its own.
func TestTwoGroups(t *testing.T) {
	var a, b Groups
	checkCame(t, &a, onlyRight(1, 3))
	checkGone(t, &b, onlyRight(1, 3), api.ErrNone)
	checkGroups(t, &a, api.Group{Key: 1, Count: 1, Least: 3, Most: 3, Some: true})
	checkGroups(t, &b)
}

func checkCame(t *testing.T, g *Groups, x api.Out) {
	t.Helper()
	if err := g.Apply(api.Change{Out: x}); err != nil {
		t.Fatalf("Apply(%v) = %v, want nil", x, err)
	}
}

func checkGone(t *testing.T, g *Groups, x api.Out, want api.Errno) {
	t.Helper()
	err := g.Apply(api.Change{Out: x, Gone: true})
	if got := api.Tell(err); got != want {
		t.Fatalf("Apply(%v, gone) = %v, want %v", x, got, want)
	}
	checkPlaceless(t, err)
}

// checkNone looks at Of a key that is not there: beside the error stands a zero value (P2).
func checkNone(t *testing.T, g *Groups, key int) {
	t.Helper()
	got, err := g.Of(key)
	if api.Tell(err) != api.ErrNone || got != (api.Group{}) {
		t.Errorf("Of(%d) = %v, %v, want %v and a zero value", key, got, err, api.ErrNone)
	}
	checkPlaceless(t, err)
}

func checkPlaceless(t *testing.T, err error) {
	t.Helper()
	var placed *api.At
	if errors.As(err, &placed) {
		t.Errorf("the error %v has a place", err)
	}
}

// checkGroups looks at all that Groups tell of what is there.
func checkGroups(t *testing.T, g *Groups, want ...api.Group) {
	t.Helper()
	if got := g.All(); !slices.Equal(got, want) {
		t.Errorf("All() = %v, want %v", got, want)
	}
	for _, w := range want {
		if got, err := g.Of(w.Key); got != w || err != nil {
			t.Errorf("Of(%d) = %v, %v, want %v", w.Key, got, err, w)
		}
	}
}

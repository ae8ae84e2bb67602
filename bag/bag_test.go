package bag

import (
	"errors"
	"math"
	"slices"
	"testing"

	"estuary/api"
	"estuary/row"
)

// rising are Outs in order (promise 1.1), no two the same: each differs from some other one in one thing alone.
func rising() []api.Out {
	low, high := api.Row{Key: 1, Time: 2, Value: 3}, api.Row{Key: 1, Time: 2, Value: 4}
	return []api.Out{
		{Key: math.MinInt, HasLeft: true, HasRight: true},
		{Key: 0},
		{Key: 1},
		row.Lone(api.Right, low),
		row.Lone(api.Right, high),
		row.Lone(api.Left, low),
		row.Pair(low, low),
		row.Pair(low, high),
		row.Lone(api.Left, high),
		row.Pair(high, low),
		{Key: 2, Left: low, HasLeft: true},
		{Key: math.MaxInt},
	}
}

// TestZeroValue covers promise 2.1: at first there is none, of what may be and of what may not.
func TestZeroValue(t *testing.T) {
	var b Bag
	checkBag(t, &b, nil)
	for _, x := range rising() {
		checkMany(t, &b, x, 0)
	}
}

// TestApply covers promise 2.1: one more of one, and no more of any other one.
func TestApply(t *testing.T) {
	outs := rising()
	for i, x := range outs {
		var b Bag
		checkApply(t, &b, x, false, api.OK)
		for k, y := range outs {
			want := 0
			if i == k {
				want = 1
			}
			checkMany(t, &b, y, want)
		}
		checkBag(t, &b, []api.Out{x})
	}
}

// TestTwice covers promise 2.1: what is there twice goes once, and twice, and no third time.
func TestTwice(t *testing.T) {
	for _, x := range rising() {
		var b Bag
		checkApply(t, &b, x, false, api.OK)
		checkApply(t, &b, x, false, api.OK)
		checkMany(t, &b, x, 2)
		checkBag(t, &b, []api.Out{x, x})
		checkApply(t, &b, x, true, api.OK)
		checkMany(t, &b, x, 1)
		checkBag(t, &b, []api.Out{x})
		checkApply(t, &b, x, true, api.OK)
		checkMany(t, &b, x, 0)
		checkBag(t, &b, nil)
		checkApply(t, &b, x, true, api.ErrNone)
		checkBag(t, &b, nil)
		checkApply(t, &b, x, false, api.OK)
		checkBag(t, &b, []api.Out{x})
	}
}

// TestGoneThatIsNotThere covers promise 2.1: ErrNone, and nothing is changed (P2): not of a fresh one, and not of one that has all others.
func TestGoneThatIsNotThere(t *testing.T) {
	outs := rising()
	for i, x := range outs {
		var b Bag
		checkApply(t, &b, x, true, api.ErrNone)
		checkMany(t, &b, x, 0)
		checkBag(t, &b, nil)
		others := slices.Delete(slices.Clone(outs), i, i+1)
		for _, y := range others {
			checkApply(t, &b, y, false, api.OK)
		}
		checkApply(t, &b, x, true, api.ErrNone)
		checkMany(t, &b, x, 0)
		checkBag(t, &b, others)
	}
}

// TestOddOnes covers promise 2.1, of Outs that Pair and Lone never tell: whoever differs in anything is another one.
func TestOddOnes(t *testing.T) {
	odd := []api.Out{
		{Key: 1},
		{Key: 1, Right: api.Row{Value: 9}},
		{Key: 1, HasRight: true},
		{Key: 1, Left: api.Row{Value: 9}},
		{Key: 1, Left: api.Row{Value: 9}, HasRight: true},
		{Key: 1, HasLeft: true},
		{Key: 1, Left: api.Row{Key: 5}, HasLeft: true},
		{Key: 1, Left: api.Row{Key: math.MaxInt, Time: math.MinInt}, HasLeft: true},
	}
	var b Bag
	for i, x := range slices.Backward(odd) {
		checkApply(t, &b, x, true, api.ErrNone)
		checkApply(t, &b, x, false, api.OK)
		checkBag(t, &b, odd[i:])
	}
	for i, x := range odd {
		checkApply(t, &b, x, true, api.OK)
		checkBag(t, &b, odd[i+1:])
	}
}

// TestAllInOrder covers promise 2.1: however they came, they are told in order, each as often as it is there.
func TestAllInOrder(t *testing.T) {
	outs := rising()
	var want []api.Out
	for i, x := range outs {
		want = append(want, slices.Repeat([]api.Out{x}, i%3+1)...)
	}
	// By each of these steps, round and round, each of the 24 has its turn once.
	for _, step := range []int{1, 5, 7, 23} {
		var b Bag
		for i := range want {
			checkApply(t, &b, want[i*step%len(want)], false, api.OK)
		}
		checkBag(t, &b, want)
		for i, x := range outs {
			checkMany(t, &b, x, i%3+1)
		}
	}
}

// TestCameAndWent covers promise 2.1: behind each change all that is told is what a plain list of what is there tells.
func TestCameAndWent(t *testing.T) {
	outs := rising()
	var b Bag
	var there []api.Out
	drawn := uint32(1)
	for range 3000 {
		drawn = drawn*1664525 + 1013904223
		x, gone := outs[drawn>>16%uint32(len(outs))], drawn>>28 < 8
		at := slices.Index(there, x)
		want := api.OK
		switch {
		case !gone:
			there = append(there, x)
		case at < 0:
			want = api.ErrNone
		default:
			there = slices.Delete(there, at, at+1)
		}
		checkApply(t, &b, x, gone, want)
		slices.SortFunc(there, row.CompareOut)
		checkBag(t, &b, there)
	}
	for _, x := range there {
		checkApply(t, &b, x, true, api.OK)
	}
	checkBag(t, &b, nil)
	if len(b.many) != 0 {
		t.Errorf("%d Outs are left of what came and went, want none", len(b.many))
	}
}

// TestAskingChangesNothing covers promise 2.1: Many of what is not there leaves nothing.
func TestAskingChangesNothing(t *testing.T) {
	var b Bag
	x := row.Lone(api.Left, api.Row{Key: 1})
	checkApply(t, &b, x, false, api.OK)
	for range 2 {
		checkMany(t, &b, api.Out{Key: 1}, 0)
		checkMany(t, &b, x, 1)
		checkBag(t, &b, []api.Out{x})
	}
}

// TestAllIsTheCallers covers P4: what is written into an answer is seen in no other one.
func TestAllIsTheCallers(t *testing.T) {
	var b Bag
	x, y := row.Lone(api.Right, api.Row{Key: 1}), row.Lone(api.Right, api.Row{Key: 2})
	checkApply(t, &b, x, false, api.OK)
	checkApply(t, &b, y, false, api.OK)
	first, second := b.All(), b.All()
	clear(first)
	_ = append(first[:1], api.Out{Key: 9})
	checkOuts(t, second, []api.Out{x, y})
	checkBag(t, &b, []api.Out{x, y})
}

// TestTwoBags: each has its own.
func TestTwoBags(t *testing.T) {
	var a, b Bag
	x := row.Lone(api.Right, api.Row{Key: 1})
	checkApply(t, &a, x, false, api.OK)
	checkApply(t, &b, x, true, api.ErrNone)
	checkBag(t, &a, []api.Out{x})
	checkBag(t, &b, nil)
}

func checkApply(t *testing.T, b *Bag, x api.Out, gone bool, want api.Errno) {
	t.Helper()
	err := b.Apply(api.Change{Out: x, Gone: gone})
	if got := api.Tell(err); got != want {
		t.Fatalf("Apply(%v, gone %v) = %v, want %v", x, gone, got, want)
	}
	var at *api.At
	if errors.As(err, &at) {
		t.Errorf("Apply(%v, gone %v): its error has a place", x, gone)
	}
}

func checkMany(t *testing.T, b *Bag, x api.Out, want int) {
	t.Helper()
	if got := b.Many(x); got != want {
		t.Errorf("Many(%v) = %d, want %d", x, got, want)
	}
}

// checkBag looks at all that a Bag tells of what is there.
func checkBag(t *testing.T, b *Bag, want []api.Out) {
	t.Helper()
	if got := b.Size(); got != len(want) {
		t.Errorf("Size() = %d, want %d", got, len(want))
	}
	checkOuts(t, b.All(), want)
}

func checkOuts(t *testing.T, got, want []api.Out) {
	t.Helper()
	if !slices.Equal(got, want) {
		t.Errorf("All() = %v, want %v", got, want)
	}
}

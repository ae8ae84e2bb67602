package many

import (
	"errors"
	"fmt"
	"math"
	"slices"
	"strings"
	"testing"

	"estuary/api"
	"estuary/desk"
)

// drawnTexts are so many, each of which is answered otherwise, and of lengths that make some workers slower than others.
func drawnTexts(many int) []string {
	drawn := uint32(9)
	below := func(most int) int {
		drawn = drawn*1664525 + 1013904223
		return int(drawn>>8) % most
	}
	texts := make([]string, many)
	for i := range texts {
		texts[i] = fmt.Sprintf("left %d 0 0\n", i)
		for range below(60) {
			texts[i] += fmt.Sprintf("%s %d %d %d\n", []string{"left", "right"}[below(2)], below(3), below(40), below(9))
		}
		texts[i] += "view\ngroups\n"
	}
	return texts
}

// sessions are the answers to texts, one by one.
func sessions(texts []string) []string {
	var all []string
	for _, text := range texts {
		all = append(all, desk.Session(text))
	}
	return all
}

// TestInOrder covers promise 9.1: each text's session, in order.
func TestInOrder(t *testing.T) {
	checkAll(t, []string{"left 1 5 7", "", "late\nheld", "x", "left 1 5 7\nview"}, 3,
		[]string{"fed, +1: 5 7 -\n", "ok\n", "0\n0 0\n", "error 3\n", "fed, +1: 5 7 -\n1: 5 7 -\n"})
}

// TestOwnEngines covers promise 9.1: what one text does is not seen by another, though one worker takes both.
func TestOwnEngines(t *testing.T) {
	for workers := 1; workers <= 2; workers++ {
		checkAll(t, []string{"plan 0 0 0\nmark 0 9\nleft 1 10 7", "marks\nfed\nview\nleft 1 5 7"}, workers,
			[]string{"plan\nmark\nfed\n", "-1099511627777 -1099511627777\n0 0\n\nfed, +1: 5 7 -\n"})
	}
}

// TestEachNumberOfWorkers covers promise 9.1: from 1 to 16, of fewer texts, as many, and more, all tell the same.
func TestEachNumberOfWorkers(t *testing.T) {
	texts := drawnTexts(50)
	want := sessions(texts)
	for workers := 1; workers <= 16; workers++ {
		for _, many := range []int{0, 1, 2, workers - 1, workers, workers + 1, 49, 50} {
			checkAll(t, texts[:many], workers, want[:many])
		}
	}
}

// TestAgain covers promise 9.1, and P4: asked again, the same is told.
func TestAgain(t *testing.T) {
	texts := drawnTexts(20)
	want := sessions(texts)
	for range 50 {
		checkAll(t, texts, 16, want)
	}
}

// TestNoTexts covers promise 9.1: none are answered by none.
func TestNoTexts(t *testing.T) {
	checkAll(t, nil, 1, nil)
	checkAll(t, []string{}, 16, nil)
}

// TestWrongTexts covers promise 9.1: a text that is too long, or has wrong lines, is answered as by a session, and the others are, too.
func TestWrongTexts(t *testing.T) {
	long := strings.Repeat(" ", api.MaxText)
	checkAll(t, []string{long + " ", "late", "\xff\x00", long}, 4, []string{"error 4\n", "0\n", "error 3\n", "ok\n"})
}

// TestHowManyTexts covers promise 9.1: 50 may be, one more may not.
func TestHowManyTexts(t *testing.T) {
	texts := drawnTexts(51)
	checkAll(t, texts[:50], 1, sessions(texts[:50]))
	checkAll(t, texts[:50], 16, sessions(texts[:50]))
	checkLimit(t, texts, 1)
	checkLimit(t, texts, 16)
	checkLimit(t, make([]string, 1000), 8)
}

// TestHowManyWorkers covers promise 9.1: 1 and 16 may be, 0 and 17 may not, however many texts there are.
func TestHowManyWorkers(t *testing.T) {
	for _, many := range []int{0, 1, 50, 51} {
		for _, workers := range []int{0, 17, -1, 18, 1 << 32, 1<<32 + 1, math.MaxInt, math.MinInt} {
			checkLimit(t, make([]string, many), workers)
		}
	}
	checkAll(t, []string{"late"}, 1, []string{"0\n"})
	checkAll(t, []string{"late"}, 16, []string{"0\n"})
}

// TestListsAreTheCallers covers P4: the list that is handed in stays as it is, behind its length, too; those that come out share nothing.
func TestListsAreTheCallers(t *testing.T) {
	whole := []string{"late", "held", "behind", "behind"}
	first, _ := All(whole[:2], 2)
	second, _ := All(whole[:2], 2)
	if !slices.Equal(whole, []string{"late", "held", "behind", "behind"}) {
		t.Errorf("the list that was handed in is %q", whole)
	}
	for i := range first {
		first[i] = "changed"
	}
	first = append(first, "changed")
	if !slices.Equal(second, []string{"0\n", "0 0\n"}) || whole[0] != "late" || whole[2] != "behind" {
		t.Errorf("with %q changed: %q, %q", first, second, whole)
	}
	whole[0] = "changed"
	if second[0] != "0\n" {
		t.Errorf("the list that came out is %q", second)
	}
}

func checkAll(t *testing.T, texts []string, workers int, want []string) {
	t.Helper()
	got, err := All(texts, workers)
	if err != nil || !slices.Equal(got, want) {
		t.Errorf("All(%d texts, %d) = %.300q, %v, want %.300q", len(texts), workers, got, err, want)
	}
}

func checkLimit(t *testing.T, texts []string, workers int) {
	t.Helper()
	got, err := All(texts, workers)
	var placed *api.At
	if api.Tell(err) != api.ErrLimit || errors.As(err, &placed) || got != nil {
		t.Errorf("All(%d texts, %d) = %.300q, %v, want no answers, ErrLimit", len(texts), workers, got, err)
	}
}

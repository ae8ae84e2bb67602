package engine

import (
	"slices"
	"strconv"
	"strings"

	"estuary/api"
	"estuary/row"
)

// What a line begins with. An Out's number stands with its word: how many numbers follow hangs on it.
const (
	planHead  = "plan"
	fedHead   = "fed"
	marksHead = "marks"
	rowHead   = "row"
	outWord   = "out"
	leftHead  = outWord + " 1"
	rightHead = outWord + " 2"
	pairHead  = outWord + " 3"
	endHead   = "end"
)

// leastOut is how many bytes the line of an Out has at least.
const leastOut = len("out 1 0 0 0\n")

// line is one of a text: what it begins with, and its numbers.
type line struct {
	head    string
	numbers []int
}

// lengths are how many numbers each line has.
func lengths() map[string]int {
	return map[string]int{
		planHead:  3,
		fedHead:   3,
		marksHead: 2,
		rowHead:   5,
		leftHead:  3,
		rightHead: 3,
		pairHead:  6,
		endHead:   0,
	}
}

// Saved is all of an engine as a text: lines of words. (Its view is put together anew when it is loaded.) ErrLimit: more than MaxSaved bytes.
func (e *Engine) Saved() (_ string, _ error) {
	// Such a view need not be put in order to be told too long.
	if e.view.Size() > api.MaxSaved/leastOut {
		return "", api.ErrLimit
	}
	var text strings.Builder
	write := writer(&text)
	write(planHead, e.plan.Low, e.plan.High, e.plan.Mode)
	write(fedHead, e.fed[api.Left], e.fed[api.Right], e.Late())
	write(marksHead, e.Mark(api.Left), e.Mark(api.Right))
	for s := range sides {
		for _, m := range e.Rows(s) {
			write(rowHead, s, m.Row.Key, m.Row.Time, m.Row.Value, m.Before)
		}
	}
	for _, x := range e.View() {
		write(outHead(x), outNumbers(x)...)
	}
	write(endHead)
	if text.Len() > api.MaxSaved {
		return "", api.ErrLimit
	}
	return text.String(), nil
}

// Load is an engine of what Saved tells. ErrForm: it tells none so.
//
// What is wrong only in how it is written (an order, a nought ahead) is not looked for: the engine does not tell it so.
func Load(s string) (_ *Engine, _ error) {
	// Saved tells no such text, however much of it could be read.
	if len(s) > api.MaxSaved {
		return nil, api.ErrForm
	}
	e, ok := build(s)
	if !ok {
		return nil, api.ErrForm
	}
	if told, err := e.Saved(); err != nil || told != s {
		return nil, api.ErrForm
	}
	return e, nil
}

// writer is a function that lets a line stand behind a text.
func writer(text *strings.Builder) func(head string, numbers ...int) {
	return func(head string, numbers ...int) {
		text.WriteString(head)
		for _, n := range numbers {
			text.WriteString(" ")
			text.WriteString(strconv.Itoa(n))
		}
		text.WriteString("\n")
	}
}

func outHead(x api.Out) string {
	switch {
	case x.HasLeft && x.HasRight:
		return pairHead
	case x.HasLeft:
		return leftHead
	}
	return rightHead
}

func outNumbers(x api.Out) []int {
	var all []int
	if x.HasLeft {
		all = append(all, x.Left.Key, x.Left.Time, x.Left.Value)
	}
	if x.HasRight {
		all = append(all, x.Right.Key, x.Right.Time, x.Right.Value)
	}
	return all
}

// build puts an engine together, line by line: the plan's line makes it.
func build(s string) (*Engine, bool) {
	var e *Engine
	known := lengths()
	for text := range strings.SplitSeq(strings.TrimSuffix(s, "\n"), "\n") {
		l, ok := read(text, known)
		switch {
		case !ok:
			return nil, false
		case e != nil:
			ok = e.restore(l)
		default:
			e, ok = start(l)
		}
		if !ok {
			return nil, false
		}
	}
	return e, true
}

// read parts a line. Not ok: it begins with no word that is known, has too many numbers or too few, or what is none.
func read(text string, known map[string]int) (line, bool) {
	words := strings.Split(text, " ")
	if words[0] == outWord && len(words) > 1 {
		words[1] = outWord + " " + words[1]
		words = words[1:]
	}
	many, there := known[words[0]]
	if !there || len(words)-1 != many {
		return line{}, false
	}
	l := line{head: words[0], numbers: make([]int, many)}
	for i, word := range words[1:] {
		n, err := strconv.Atoi(word)
		if err != nil {
			return line{}, false
		}
		l.numbers[i] = n
	}
	return l, true
}

func start(l line) (*Engine, bool) {
	if l.head != planHead {
		return nil, false
	}
	e, err := New(api.Plan{Low: l.numbers[0], High: l.numbers[1], Mode: l.numbers[2]})
	return e, err == nil
}

// restore lets what a line tells be. (The end, and a plan that is told again, change nothing.)
func (e *Engine) restore(l line) bool {
	n := l.numbers
	switch l.head {
	case fedHead:
		return e.restoreFed(n)
	case marksHead:
		return e.restoreMarks(n)
	case rowHead:
		return e.join.Put(n[0], rowOf(n[1:]), n[4]) == nil
	case leftHead:
		return e.restoreOut(row.Lone(api.Left, rowOf(n)))
	case rightHead:
		return e.restoreOut(row.Lone(api.Right, rowOf(n)))
	case pairHead:
		return e.restoreOut(row.Pair(rowOf(n), rowOf(n[3:])))
	}
	return true
}

func (e *Engine) restoreFed(n []int) bool {
	if slices.Min(n) < 0 {
		return false
	}
	e.fed = [sides]int{api.Left: n[0], api.Right: n[1]}
	e.join.Lateness(n[2])
	return true
}

// restoreMarks moves no mark that is there already: to where a mark is at first no Move leads.
func (e *Engine) restoreMarks(marks []int) bool {
	for s := range sides {
		if marks[s] != e.Mark(s) && e.Move(s, marks[s]) != nil {
			return false
		}
	}
	return true
}

// restoreOut may ask a row that an Out has not, too: it is all noughts, which is Good.
func (e *Engine) restoreOut(x api.Out) bool {
	if !row.Good(x.Left) || !row.Good(x.Right) {
		return false
	}
	if x.HasLeft && x.HasRight && x.Left.Key != x.Right.Key {
		return false
	}
	e.apply(api.Change{Out: x})
	return true
}

func rowOf(n []int) api.Row {
	return api.Row{Key: n[0], Time: n[1], Value: n[2]}
}

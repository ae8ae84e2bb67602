package engine

import (
	"math"
	"slices"
	"strconv"
	"strings"
	"testing"

	"estuary/api"
	"estuary/row"
	"estuary/side"
)

// bare is a text as Saved tells it of an engine that has moved its marks, and nothing else.
const bare = "plan 0 5 3\nfed 0 0 0\nmarks 0 0\nend\n"

// top is what stands ahead of rows and Outs in texts that are looked at for these.
const top = "plan 0 5 3\nfed 2 2 1\nmarks 4 6\n"

// saved is the text of an engine that is not too long.
func saved(t *testing.T, e *Engine) string {
	t.Helper()
	s, err := e.Saved()
	checkError(t, "Saved", err, api.OK)
	return s
}

// loaded is the engine of a text that is right.
func loaded(t *testing.T, s string) *Engine {
	t.Helper()
	e, err := Load(s)
	if err != nil || e == nil {
		t.Fatalf("Load(%.300q) = %v, %v", s, e, err)
	}
	return e
}

// TestSavedAtFirst covers promise 7.2: marks as they are at first, of each plan that may be, and loaded again, though no Move leads to them.
func TestSavedAtFirst(t *testing.T) {
	e := made(t, -api.MaxSpan, api.MaxSpan, api.RightOuter)
	const want = "plan -1048576 1048576 2\nfed 0 0 0\nmarks -1099511627777 -1099511627777\nend\n"
	checkSaved(t, e, want)
	checkSame(t, all(loaded(t, want)), all(e))
}

// TestSavedText covers promise 7.2: each line, in order; the left side's rows ahead of the right side's, as Rows tells them; Outs as the view tells them.
func TestSavedText(t *testing.T) {
	e := made(t, -1, 5, api.Full)
	feed(t, e, api.Right, api.Row{Key: 2, Time: 30, Value: -4})
	feed(t, e, api.Left, api.Row{Key: 1, Time: 10, Value: 7})
	feed(t, e, api.Left, api.Row{Key: 1, Time: 10, Value: -7})
	feed(t, e, api.Left, api.Row{Key: -3, Time: 20, Value: 0})
	feed(t, e, api.Right, api.Row{Key: 1, Time: 12, Value: 9})
	feed(t, e, api.Right, api.Row{Key: 2, Time: 30, Value: -4})
	checkError(t, "Move", e.Move(api.Left, -2), api.OK)
	checkFeedFails(t, e, api.Left, at(-2), api.ErrOrder)
	checkError(t, "Move", e.Move(api.Right, 15), api.OK)
	checkSaved(t, e, "plan -1 5 3\n"+
		"fed 4 3 1\n"+
		"marks -2 15\n"+
		"row 0 -3 20 0 0\n"+
		"row 1 1 12 9 2\n"+
		"row 1 2 30 -4 0\n"+
		"row 1 2 30 -4 0\n"+
		"out 1 -3 20 0\n"+
		"out 3 1 10 -7 1 12 9\n"+
		"out 3 1 10 7 1 12 9\n"+
		"out 2 2 30 -4\n"+
		"out 2 2 30 -4\n"+
		"end\n")
	checkSame(t, all(loaded(t, saved(t, e))), all(e))
}

// TestSavedRowsAsTheyCame covers promise 7.2: rows of one key and time stand as they came, and do so when they are loaded.
func TestSavedRowsAsTheyCame(t *testing.T) {
	e := made(t, 0, 5, api.Inner)
	for _, value := range []int{5, -1, 9, 5, 0} {
		feed(t, e, api.Left, api.Row{Key: 1, Time: 10, Value: value})
	}
	want := "plan 0 5 0\nfed 5 0 0\nmarks -1099511627777 -1099511627777\n" +
		"row 0 1 10 5 0\nrow 0 1 10 -1 0\nrow 0 1 10 9 0\nrow 0 1 10 5 0\nrow 0 1 10 0 0\nend\n"
	checkSaved(t, e, want)
	checkSaved(t, loaded(t, want), want)
}

// TestSavedChangesNothing covers promise 7.2: an engine is as it was, however often it is saved, and what was saved stays as it was.
func TestSavedChangesNothing(t *testing.T) {
	e := made(t, 0, 5, api.Full)
	feed(t, e, api.Left, at(10))
	before, text := all(e), saved(t, e)
	checkSaved(t, e, text)
	checkSame(t, all(e), before)
	l := loaded(t, text)
	feed(t, e, api.Right, at(12))
	checkSame(t, all(l), before)
	feed(t, l, api.Left, at(11))
	checkSame(t, all(loaded(t, text)), before)
}

// TestSavedIsEnough covers promises 7.2 and 7.3: an engine that is saved and loaded at each time of a run goes on as one that never is.
func TestSavedIsEnough(t *testing.T) {
	d := die(5)
	for range 40 {
		p := api.Plan{Low: d.below(15) - 7, Mode: d.below(4)}
		p.High = p.Low + d.below(9)
		whole, other := made(t, p.Low, p.High, p.Mode), made(t, p.Low, p.High, p.Mode)
		for now := range 50 {
			s := d.below(2)
			if d.below(6) == 0 {
				time := now - d.below(20)
				checkError(t, "Move", other.Move(s, time), api.Tell(whole.Move(s, time)))
			} else {
				r := api.Row{Key: d.below(2), Time: now + d.below(20) - 10, Value: d.below(5) - 2}
				want, wrong := whole.Feed(s, r)
				got, err := other.Feed(s, r)
				checkError(t, "Feed", err, api.Tell(wrong))
				if !slices.Equal(got, want) {
					t.Fatalf("Feed(%d, %v) = %v, want %v", s, r, got, want)
				}
			}
			text := saved(t, whole)
			checkSaved(t, other, text)
			other = loaded(t, text)
			checkSame(t, all(other), all(whole))
		}
	}
}

// filled is an engine whose text has just so many bytes, of rows that are in the view alone: none is held.
func filled(t *testing.T, bytes int) *Engine {
	t.Helper()
	e := made(t, 0, 0, api.LeftOuter)
	checkError(t, "Move", e.Move(api.Right, api.MaxTime), api.OK)
	for range bytes/12 - 20 {
		feed(t, e, api.Left, api.Row{Key: 1, Time: 1, Value: 1})
	}
	// A line has 12 to 24 bytes, by its value: the last one has just those that are missing.
	for range 40 {
		missing := bytes - len(saved(t, e))
		if missing == 0 {
			break
		}
		value := 1
		if missing <= 24 {
			for range missing - 12 {
				value *= 10
			}
		}
		feed(t, e, api.Left, api.Row{Key: 1, Time: 1, Value: value})
	}
	if got := len(saved(t, e)); got != bytes {
		t.Fatalf("the text has %d bytes, want %d", got, bytes)
	}
	return e
}

// TestSavedLimit covers promise 7.2: a text of MaxSaved bytes is told, and loaded; of one more byte there is ErrLimit, nothing else (P2), and no engine.
func TestSavedLimit(t *testing.T) {
	e := filled(t, api.MaxSaved)
	text := saved(t, e)
	checkSame(t, all(loaded(t, text)), all(e))

	// One byte more, in what would be told just so but for that.
	checkForm(t, strings.Replace(text, "out 1 1 1 1\n", "out 1 1 1 -1\n", 1))

	e = filled(t, api.MaxSaved-12)
	feed(t, e, api.Left, api.Row{Key: 1, Time: 1, Value: -1})
	before := all(e)
	checkTooLong(t, e)
	checkSame(t, all(e), before)
	// It goes on all the same.
	feed(t, e, api.Left, at(5))
	checkTooLong(t, e)
}

// TestSavedFarBeyond covers promise 7.2: a view of many more than a text has room for.
func TestSavedFarBeyond(t *testing.T) {
	e := made(t, 0, 0, api.Inner)
	for s := range 2 {
		for range api.MaxRows {
			feed(t, e, s, api.Row{})
		}
	}
	if got := len(e.View()); got != api.MaxRows*api.MaxRows {
		t.Fatalf("the view has %d", got)
	}
	checkTooLong(t, e)
}

// TestLoadRight covers promise 7.2: what Feed and Move would not lead to, but Put, Lone and Pair do, is loaded, and told just so.
func TestLoadRight(t *testing.T) {
	const most = "1099511627776"
	texts := []string{
		bare,
		// Plans at their ends.
		"plan -1048576 1048576 0\nfed 0 0 0\nmarks 0 0\nend\n",
		"plan 1048576 1048576 1\nfed 0 0 0\nmarks 0 0\nend\n",
		"plan -1048576 -1048576 2\nfed 0 0 0\nmarks 0 0\nend\n",
		// Numbers at theirs.
		"plan 0 5 3\nfed 9223372036854775807 9223372036854775807 9223372036854775807\nmarks 0 0\nend\n",
		"plan 0 5 3\nfed 0 0 7\nmarks 0 0\nend\n",
		"plan 0 5 3\nfed 0 0 0\nmarks -1099511627777 " + most + "\nend\n",
		"plan 0 5 3\nfed 0 0 0\nmarks -" + most + " -1099511627777\nend\n",
		// A row whose last time is behind both marks, and one that met more than there are.
		top + "row 0 1 -100 3 0\nend\n",
		top + "row 1 1 -100 3 9223372036854775807\nend\n",
		top + "row 0 -" + most + " -" + most + " -" + most + " 0\nrow 1 " + most + " " + most + " " + most + " 0\nend\n",
		// Rows of one key and time, whatever their values, and by key and time.
		top + "row 0 1 5 9 0\nrow 0 1 5 -9 4\nrow 0 1 5 3 1\nrow 0 1 6 0 0\nrow 0 2 -5 0 0\nrow 1 1 5 9 0\nend\n",
		// Outs of rows that do not meet, and the same one twice.
		top + "out 3 1 2 3 1 -900 3\nout 3 1 2 3 1 -900 3\nend\n",
		top + "out 3 -" + most + " -" + most + " -" + most + " -" + most + " " + most + " " + most + "\nend\n",
		top + "out 2 1 2 3\nout 1 1 2 3\nout 3 1 2 3 1 2 3\nend\n",
		// Outs of one row alone, though such ones are not told.
		"plan 0 5 0\nfed 0 0 0\nmarks 0 0\nout 2 1 2 3\nout 1 1 2 3\nend\n",
		// As many rows as there may be.
		top + manyRows(0, api.MaxRows) + manyRows(1, api.MaxRows) + "end\n",
	}
	for _, s := range texts {
		e := loaded(t, s)
		checkSaved(t, e, s)
		checkGroups(t, e, groupsOf(e.View())...)
	}
}

// TestLoadTells covers promise 7.2: what is loaded is where it belongs.
func TestLoadTells(t *testing.T) {
	e := loaded(t, "plan -2 5 1\nfed 3 4 5\nmarks 6 7\nrow 0 1 20 3 4\nrow 1 5 60 7 8\n"+
		"out 2 1 2 -3\nout 1 1 5 6\nout 3 1 7 8 1 9 10\nend\n")
	checkNumbers(t, e, [2]int{3, 4}, 5, [2]int{6, 7})
	checkRows(t, e,
		[]side.Met{{Row: api.Row{Key: 1, Time: 20, Value: 3}, Before: 4}},
		[]side.Met{{Row: api.Row{Key: 5, Time: 60, Value: 7}, Before: 8}})
	checkView(t, e,
		row.Lone(api.Right, api.Row{Key: 1, Time: 2, Value: -3}),
		row.Lone(api.Left, api.Row{Key: 1, Time: 5, Value: 6}),
		row.Pair(api.Row{Key: 1, Time: 7, Value: 8}, api.Row{Key: 1, Time: 9, Value: 10}))
	checkGroups(t, e, api.Group{Key: 1, Count: 3, Sum: 14, Least: -3, Most: 10, Some: true})
	// The plan, too: -2 and 5 are still met, what lies beyond is not, and left rows alone are told.
	for _, time := range []int{18, 25} {
		r := api.Row{Key: 1, Time: time}
		checkFeed(t, e, api.Right, r, comes(row.Pair(api.Row{Key: 1, Time: 20, Value: 3}, r)))
	}
	checkFeed(t, e, api.Right, api.Row{Key: 1, Time: 17})
	checkFeed(t, e, api.Right, api.Row{Key: 1, Time: 26})
	checkFeed(t, e, api.Left, api.Row{Key: 9, Time: 26}, comes(row.Lone(api.Left, api.Row{Key: 9, Time: 26})))
}

// TestLoadOdd covers P1 and promises 7.1, 7.2: a row that met none is held, but is not in the view alone: Feed tells it as gone, and no error.
func TestLoadOdd(t *testing.T) {
	e := loaded(t, "plan 0 5 3\nfed 1 0 0\nmarks 0 0\nrow 0 1 10 7 0\nend\n")
	l, r := api.Row{Key: 1, Time: 10, Value: 7}, at(12)
	checkFeed(t, e, api.Right, r, goes(row.Lone(api.Left, l)), comes(row.Pair(l, r)))
	checkView(t, e, row.Pair(l, r))
	checkSaved(t, e, "plan 0 5 3\nfed 1 1 0\nmarks 0 0\nrow 0 1 10 7 1\nrow 1 1 12 12 1\nout 3 1 10 7 1 12 12\nend\n")
}

// TestLoadLastNumber covers promise 7.1: behind the last number Fed and Late stay there, so that what is saved can be loaded.
func TestLoadLastNumber(t *testing.T) {
	const last = "9223372036854775807"
	e := loaded(t, "plan 0 5 0\nfed "+last+" "+last+" "+last+"\nmarks 0 0\nend\n")
	feed(t, e, api.Left, at(5))
	checkFeedFails(t, e, api.Right, at(0), api.ErrOrder)
	checkNumbers(t, e, [2]int{math.MaxInt, math.MaxInt}, math.MaxInt, [2]int{0, 0})
	loaded(t, saved(t, e))
}

// TestLoadWrongLines covers promise 7.2: lines that are too many, too few, in another order, empty, or without their line feed.
func TestLoadWrongLines(t *testing.T) {
	texts := []string{
		"", "\n", "\n\n", " ", "end", "end\n", "plan\n", "plan 0 5 3", "plan 0 5 3\n", "plan 0 5 3\nend\n",
		"\x00", "plan 0 5 3\nfed 0 0 0\nmarks 0 0\nend\n\x00", "plan 0 5 3\nfed 0 0 0\nmarks 0 0\nEnd\n",
		"out\n", "out \n", "out", "plan 0 5 3\nout\n", "plan 0 5 3\nfed 0 0 0\nmarks 0 0\nout\nend\n",
		"plan 0 5 3\r\nfed 0 0 0\r\nmarks 0 0\r\nend\r\n",
		"\ufeff" + bare,
		bare + "\n", "\n" + bare, bare + "end\n", bare + bare, bare[:len(bare)-1], bare + " ", " " + bare,
		strings.Replace(bare, "\n", "\n\n", 1),
		strings.Replace(bare, "end\n", "\nend\n", 1),
		// A line too many.
		strings.Replace(bare, "plan", "plan 0 5 3\nplan", 1),
		strings.Replace(bare, "fed", "fed 0 0 0\nfed", 1),
		strings.Replace(bare, "marks", "marks 0 0\nmarks", 1),
		strings.Replace(bare, "end", "plan 0 5 3\nend", 1),
		strings.Replace(bare, "end", "more 0\nend", 1),
		strings.Replace(bare, "end", "row\nend", 1),
		// A line too few.
		strings.Replace(bare, "plan 0 5 3\n", "", 1),
		strings.Replace(bare, "fed 0 0 0\n", "", 1),
		strings.Replace(bare, "marks 0 0\n", "", 1),
		strings.Replace(bare, "end\n", "", 1),
		// In another order.
		"fed 0 0 0\nplan 0 5 3\nmarks 0 0\nend\n",
		"plan 0 5 3\nmarks 0 0\nfed 0 0 0\nend\n",
		"plan 0 5 3\nfed 0 0 0\nend\nmarks 0 0\n",
		"plan 0 5 3\nfed 0 0 0\nrow 0 1 9 3 0\nmarks 0 0\nend\n",
		top + "end\nrow 0 1 9 3 0\n",
		top + "out 1 1 9 3\nrow 0 1 9 3 0\nend\n",
		top + "row 1 1 9 3 0\nrow 0 1 9 3 0\nend\n",
		top + "row 0 2 9 3 0\nrow 0 1 9 3 0\nend\n",
		top + "row 0 1 9 3 0\nrow 0 1 8 3 0\nend\n",
		top + "out 1 2 9 3\nout 1 1 9 3\nend\n",
		top + "out 1 1 9 3\nout 2 1 9 3\nend\n",
		top + "out 3 1 9 3 1 9 3\nout 1 1 9 3\nend\n",
		top + "out 3 1 9 3 1 9 4\nout 3 1 9 3 1 9 3\nend\n",
		top + "out 1 1 9 4\nout 1 1 9 3\nend\n",
	}
	for _, s := range texts {
		checkForm(t, s)
	}
}

// TestLoadWrongWords covers promise 7.2: of each line a number too many or too few, another blank, another word, and numbers that are written otherwise, or not of 64 bits.
func TestLoadWrongWords(t *testing.T) {
	right := []string{"plan 0 5 3", "fed 2 2 1", "marks 4 6", "row 0 1 9 3 0", "row 1 1 9 3 0", "out 2 1 9 3", "out 1 1 9 3", "out 3 1 9 3 1 9 3", "end"}
	loaded(t, strings.Join(right, "\n")+"\n")
	for i, line := range right {
		words := strings.Split(line, " ")
		wrong := []string{
			"", " " + line, line + " ", line + " 0", line + " 0 0 0", "x" + line, line + "x", strings.ToUpper(line),
			line + "\t", line + "\r", line + "\x00",
		}
		if len(words) > 1 {
			wrong = append(wrong, words[0], strings.Join(words[:len(words)-1], " "),
				strings.Replace(line, " ", "  ", 1), strings.Replace(line, " ", "\t", 1), strings.Replace(line, " ", "", 1))
		}
		for j := 1; j < len(words); j++ {
			for _, n := range otherNumbers(words[j]) {
				with := slices.Clone(words)
				with[j] = n
				wrong = append(wrong, strings.Join(with, " "))
			}
		}
		for _, w := range wrong {
			lines := slices.Clone(right)
			lines[i] = w
			checkForm(t, strings.Join(lines, "\n")+"\n")
		}
	}
}

// otherNumbers are ways in which a number is not written, and numbers that are none.
func otherNumbers(n string) []string {
	return []string{"", "+" + n, "0" + n, "-0" + n, "--" + n, n + ".0", n + "e0", "0x" + n, n + "_0", "x", "-", "+", "٣",
		"9223372036854775808", "-9223372036854775809", "99999999999999999999999999"}
}

// TestLoadWrongNumbers covers promise 7.2: a plan that may not be, numbers below 0, marks to which Move does not lead, rows that Put refuses.
func TestLoadWrongNumbers(t *testing.T) {
	beyond := []string{"1099511627777", "-1099511627777", "9223372036854775807", "-9223372036854775808"}
	plans := []string{"1 0 0", "0 1048577 0", "-1048577 0 0", "0 0 4", "0 0 -1", "9223372036854775807 9223372036854775807 0"}
	for _, p := range plans {
		checkForm(t, "plan "+p+"\nfed 0 0 0\nmarks 0 0\nend\n")
	}
	for _, n := range []string{"-1", "-9223372036854775808"} {
		for _, fed := range []string{n + " 0 0", "0 " + n + " 0", "0 0 " + n} {
			checkForm(t, "plan 0 5 3\nfed "+fed+"\nmarks 0 0\nend\n")
		}
		checkForm(t, top+"row 0 1 9 3 "+n+"\nend\n")
		checkForm(t, top+"row "+n+" 1 9 3 0\nend\n")
	}
	for _, n := range []string{"1099511627777", "-1099511627778", "9223372036854775807", "-9223372036854775808"} {
		checkForm(t, "plan 0 5 3\nfed 0 0 0\nmarks "+n+" 0\nend\n")
		checkForm(t, "plan 0 5 3\nfed 0 0 0\nmarks 0 "+n+"\nend\n")
	}
	for _, n := range beyond {
		for s := range 2 {
			head := top + "row " + strconv.Itoa(s)
			checkForm(t, head+" "+n+" 9 3 0\nend\n")
			checkForm(t, head+" 1 "+n+" 3 0\nend\n")
			checkForm(t, head+" 1 9 "+n+" 0\nend\n")
		}
	}
	checkForm(t, top+"row 2 1 9 3 0\nend\n")
	for s := range 2 {
		checkForm(t, top+manyRows(s, api.MaxRows+1)+"end\n")
	}
}

// TestLoadWrongOuts covers promise 7.2: an Out as Lone and Pair do not tell it, of rows that are not Good, of two keys.
func TestLoadWrongOuts(t *testing.T) {
	for _, kind := range []string{"0", "4", "-1", "01", "+1", "10", "9223372036854775807", "x", ""} {
		for _, rest := range []string{"", " 1 9 3", " 1 9 3 1 9 3", " 1 9 3 1 9 3 1 9 3"} {
			checkForm(t, top+"out "+kind+rest+"\nend\n")
		}
	}
	for _, out := range []string{"1", "2", "3", "1 1 9 3 1 9 3", "2 1 9 3 1 9 3", "3 1 9 3", "3 1 9 3 2 9 3", "3 2 9 3 1 9 3", "3 0 9 3 1 9 3", "3 1 9 3 0 9 3"} {
		checkForm(t, top+"out "+out+"\nend\n")
	}
	for _, n := range []string{"1099511627777", "-1099511627777", "9223372036854775807", "-9223372036854775808"} {
		for _, kind := range []string{"1", "2"} {
			for _, r := range []string{n + " 9 3", "1 " + n + " 3", "1 9 " + n} {
				checkForm(t, top+"out "+kind+" "+r+"\nend\n")
			}
		}
		checkForm(t, top+"out 3 "+n+" 9 3 "+n+" 9 3\nend\n")
		for _, r := range []string{"1 " + n + " 3", "1 9 " + n} {
			checkForm(t, top+"out 3 1 9 3 "+r+"\nend\n")
			checkForm(t, top+"out 3 "+r+" 1 9 3\nend\n")
		}
	}
}

// TestLoadEachByte covers P1 and promise 7.2: of a text with one byte put out, put in or put otherwise there is ErrForm, or an engine that tells just it.
func TestLoadEachByte(t *testing.T) {
	text := "plan -1 5 3\nfed 3 12 1\nmarks 0 -2\nrow 0 1 10 7 0\nrow 0 1 10 -7 2\nrow 1 0 12 9 1\nout 2 0 12 9\nout 1 1 10 -7\nout 3 1 10 7 1 12 10\nend\n"
	loaded(t, text)
	right, wrong := 0, 0
	for i := range len(text) {
		changed := []string{text[:i] + text[i+1:], text[:i], text[i:]}
		for _, c := range []byte("0139 -\nx\x00\xff") {
			changed = append(changed, text[:i]+string([]byte{c})+text[i+1:], text[:i]+string([]byte{c})+text[i:])
		}
		for _, s := range changed {
			e, err := Load(s)
			if err != nil {
				checkForm(t, s)
				wrong++
				continue
			}
			checkSaved(t, e, s)
			checkGroups(t, e, groupsOf(e.View())...)
			right++
		}
	}
	if right == 0 || wrong == 0 {
		t.Errorf("%d texts are right, %d wrong", right, wrong)
	}
}

// TestLoadLong covers P1 and promise 7.2: texts far beyond MaxSaved bytes, and lines of very many words.
func TestLoadLong(t *testing.T) {
	for _, s := range []string{
		strings.Repeat(" ", api.MaxSaved), strings.Repeat("\n", api.MaxSaved), strings.Repeat("0 ", 1<<20), strings.Repeat(bare, 1<<15),
		"plan 0 5 3" + strings.Repeat(" 0", api.MaxSaved/2-10),
		top + strings.Repeat("out 1 1 1 1\n", 1<<16) + "end\n",
		"plan 0 5 " + strings.Repeat("0", api.MaxSaved-40) + "3\nfed 0 0 0\nmarks 0 0\nend\n",
	} {
		checkForm(t, s)
	}
}

// manyRows are lines of so many rows of a side.
func manyRows(s, many int) string {
	return strings.Repeat("row "+strconv.Itoa(s)+" 1 9 3 0\n", many)
}

func checkSaved(t *testing.T, e *Engine, want string) {
	t.Helper()
	if got := saved(t, e); got != want {
		t.Fatalf("Saved = %q, want %q", got, want)
	}
}

func checkTooLong(t *testing.T, e *Engine) {
	t.Helper()
	s, err := e.Saved()
	checkError(t, "Saved", err, api.ErrLimit)
	if s != "" {
		t.Errorf("Saved tells %d bytes beside its error", len(s))
	}
}

func checkForm(t *testing.T, s string) {
	t.Helper()
	e, err := Load(s)
	if api.Tell(err) != api.ErrForm || e != nil {
		t.Fatalf("Load(%.300q) = %v, %v, want ErrForm", s, e, err)
	}
	checkError(t, "Load", err, api.ErrForm)
}

package desk

import (
	"fmt"
	"strconv"
	"strings"
	"testing"

	"estuary/api"
	"estuary/engine"
)

// asked is a line, and what is to be answered.
type asked struct{ line, want string }

// die is numbers that look drawn, the same each time.
type die uint32

func (d *die) below(most int) int {
	*d = *d*1664525 + 1013904223
	return int(*d>>8) % most
}

// TestExample covers promise 8.1: the document's example, of the engine that there is at first.
func TestExample(t *testing.T) {
	checkText(t, "left 1 5 7", "fed, +1: 5 7 -\n")
}

// TestAtFirst covers promise 8.1: each line that only asks, when nothing was fed.
func TestAtFirst(t *testing.T) {
	checkTalk(t,
		asked{"marks", "-1099511627777 -1099511627777"},
		asked{"held", "0 0"},
		asked{"fed", "0 0"},
		asked{"late", "0"},
		asked{"view", ""},
		asked{"groups", ""},
		asked{"saved", strconv.Itoa(len("plan 0 10 3\nfed 0 0 0\nmarks -1099511627777 -1099511627777\nend\n"))},
		asked{"reload", "reload"},
		asked{"help", "fed groups help held late left mark marks plan reload right saved view"},
	)
}

// TestPlanAtFirst covers promise 8.1: it is 0, 10, Full: which times meet, and that both sides' rows that meet none are told.
func TestPlanAtFirst(t *testing.T) {
	checkTalk(t,
		asked{"left 1 100 1", "fed, +1: 100 1 -"},
		asked{"right 1 99 2", "fed, +1: - 99 2"},
		asked{"right 1 111 3", "fed, +1: - 111 3"},
		asked{"right 1 100 4", "fed, -1: 100 1 -, +1: 100 1 100 4"},
		asked{"right 1 110 5", "fed, +1: 100 1 110 5"},
		asked{"left 2 110 6", "fed, +2: 110 6 -"},
		asked{"left 1 101 7", "fed, +1: 101 7 110 5, -1: - 111 3, +1: 101 7 111 3"},
	)
}

// TestEachLine covers promise 8.1: each line of its table, when there is something to tell: Outs of one row alone and of a pair, that come and go; groups with right values and without.
func TestEachLine(t *testing.T) {
	checkTalk(t,
		asked{"plan -1 5 3", "plan"},
		asked{"left 1 10 7", "fed, +1: 10 7 -"},
		asked{"left 1 10 -7", "fed, +1: 10 -7 -"},
		asked{"left -3 20 4", "fed, +-3: 20 4 -"},
		asked{"right 2 30 -4", "fed, +2: - 30 -4"},
		asked{"right 1 12 9", "fed, -1: 10 7 -, +1: 10 7 12 9, -1: 10 -7 -, +1: 10 -7 12 9"},
		asked{"right 1 9 -2", "fed, +1: 10 7 9 -2, +1: 10 -7 9 -2"},
		asked{"right 1 8 0", "fed, +1: - 8 0"},
		asked{"mark 0 -2", "mark"},
		asked{"left 5 -2 0", "error 10"},
		asked{"mark 1 15", "mark"},
		asked{"marks", "-2 15"},
		asked{"held", "1 4"},
		asked{"fed", "4 4"},
		asked{"late", "1"},
		asked{"view", "-3: 20 4 -, 1: - 8 0, 1: 10 -7 9 -2, 1: 10 -7 12 9, 1: 10 7 9 -2, 1: 10 7 12 9, 2: - 30 -4"},
		asked{"groups", "-3: 1 4, 1: 5 0 -2 9, 2: 1 0 -4 -4"},
		asked{"saved", strconv.Itoa(len(eachLineSaved))},
		asked{"reload", "reload"},
		asked{"saved", strconv.Itoa(len(eachLineSaved))},
		asked{"help", "fed groups help held late left mark marks plan reload right saved view"},
	)
}

// eachLineSaved is what the engine of TestEachLine is saved as.
const eachLineSaved = "plan -1 5 3\nfed 4 4 1\nmarks -2 15\n" +
	"row 0 -3 20 4 0\nrow 1 1 8 0 0\nrow 1 1 9 -2 2\nrow 1 1 12 9 2\nrow 1 2 30 -4 0\n" +
	"out 1 -3 20 4\nout 2 1 8 0\nout 3 1 10 -7 1 9 -2\nout 3 1 10 -7 1 12 9\nout 3 1 10 7 1 9 -2\nout 3 1 10 7 1 12 9\nout 2 2 30 -4\n" +
	"end\n"

// TestModes covers promise 8.1: a plan's mode says which rows that meet none are told.
func TestModes(t *testing.T) {
	checkTalk(t,
		asked{"plan 0 5 0", "plan"},
		asked{"left 1 10 7", "fed"},
		asked{"right 2 10 7", "fed"},
		asked{"plan 0 5 1", "plan"},
		asked{"left 1 10 7", "fed, +1: 10 7 -"},
		asked{"right 2 10 7", "fed"},
		asked{"plan 0 5 2", "plan"},
		asked{"left 1 10 7", "fed"},
		asked{"right 2 10 7", "fed, +2: - 10 7"},
	)
}

// TestGroups covers promise 8.1: least and greatest right values stand only where there are some, be they 0; a sum may be below 0.
func TestGroups(t *testing.T) {
	checkTalk(t,
		asked{"left 1 0 0", "fed, +1: 0 0 -"},
		asked{"groups", "1: 1 0"},
		asked{"right 2 0 0", "fed, +2: - 0 0"},
		asked{"left 3 0 -8", "fed, +3: 0 -8 -"},
		asked{"left 3 0 -9", "fed, +3: 0 -9 -"},
		asked{"groups", "1: 1 0, 2: 1 0 0 0, 3: 2 -17"},
		asked{"right 3 1 -5", "fed, -3: 0 -8 -, +3: 0 -8 1 -5, -3: 0 -9 -, +3: 0 -9 1 -5"},
		asked{"right 3 2 6", "fed, +3: 0 -8 2 6, +3: 0 -9 2 6"},
		asked{"groups", "1: 1 0, 2: 1 0 0 0, 3: 4 -34 -5 6"},
	)
}

// TestSameTwice covers promise 8.1: the view tells an Out as often as it is there.
func TestSameTwice(t *testing.T) {
	checkTalk(t,
		asked{"right 1 2 3", "fed, +1: - 2 3"},
		asked{"right 1 2 3", "fed, +1: - 2 3"},
		asked{"view", "1: - 2 3, 1: - 2 3"},
	)
}

// TestGreatNumbers covers promise 8.1: rows and marks at the bounds of what may be.
func TestGreatNumbers(t *testing.T) {
	checkTalk(t,
		asked{"plan -1048576 1048576 3", "plan"},
		asked{"left -1099511627776 -1099511627776 -1099511627776", "fed, +-1099511627776: -1099511627776 -1099511627776 -"},
		asked{"right 1099511627776 1099511627776 1099511627776", "fed, +1099511627776: - 1099511627776 1099511627776"},
		asked{"left 1099511627777 0 0", "error 1"},
		asked{"right 0 -1099511627777 0", "error 1"},
		asked{"right 0 0 1099511627777", "error 1"},
		asked{"mark 0 1099511627776", "mark"},
		asked{"mark 1 -1099511627776", "mark"},
		asked{"marks", "1099511627776 -1099511627776"},
		asked{"fed", "1 1"},
	)
}

// TestPlanAnew covers promise 8.1: of a new engine nothing is left of the one before.
func TestPlanAnew(t *testing.T) {
	checkTalk(t,
		asked{"left 1 10 7", "fed, +1: 10 7 -"},
		asked{"right 1 10 7", "fed, -1: 10 7 -, +1: 10 7 10 7"},
		asked{"mark 0 3", "mark"},
		asked{"mark 1 3", "mark"},
		asked{"left 1 3 7", "error 10"},
		asked{"plan 0 10 3", "plan"},
		asked{"marks", "-1099511627777 -1099511627777"},
		asked{"held", "0 0"},
		asked{"fed", "0 0"},
		asked{"late", "0"},
		asked{"view", ""},
		asked{"groups", ""},
		asked{"left 1 3 7", "fed, +1: 3 7 -"},
	)
}

// TestReloadGoesOn covers promise 8.1: the engine that is loaded goes on as the one before: its plan, marks, rows, and how many they met.
func TestReloadGoesOn(t *testing.T) {
	checkTalk(t,
		asked{"plan 0 5 1", "plan"},
		asked{"left 1 10 7", "fed, +1: 10 7 -"},
		asked{"left 1 11 8", "fed, +1: 11 8 -"},
		asked{"right 1 10 9", "fed, -1: 10 7 -, +1: 10 7 10 9"},
		asked{"mark 1 5", "mark"},
		asked{"right 1 5 5", "error 10"},
		asked{"reload", "reload"},
		asked{"marks", "-1099511627777 5"},
		asked{"held", "2 1"},
		asked{"fed", "2 2"},
		asked{"late", "1"},
		asked{"groups", "1: 2 15 9 9"},
		asked{"right 1 12 2", "fed, +1: 10 7 12 2, -1: 11 8 -, +1: 11 8 12 2"},
		asked{"right 2 12 2", "fed"},
		asked{"mark 1 4", "error 10"},
		asked{"view", "1: 10 7 10 9, 1: 10 7 12 2, 1: 11 8 12 2"},
	)
}

// TestReloadIsNotSeen covers promise 8.1: with a reload behind each line, these are answered as without.
func TestReloadIsNotSeen(t *testing.T) {
	d := die(7)
	for range 50 {
		plain, reloaded := "", ""
		for range 40 {
			line := drawnLine(&d)
			plain += line + "\n"
			reloaded += line + "\nreload\n"
		}
		want := strings.Split(Session(plain), "\n")
		got := strings.Split(Session(reloaded), "\n")
		if len(got) != 2*40+1 {
			t.Fatalf("Session(%.300q) tells %d lines", reloaded, len(got)-1)
		}
		for i := range 40 {
			if got[2*i] != want[i] || got[2*i+1] != "reload" {
				t.Fatalf("%.300q: line %d: %q, then %q, want %q", reloaded, 2*i+1, got[2*i], got[2*i+1], want[i])
			}
		}
	}
}

// TestLength covers promise 8.1: a text of MaxText bytes is answered; of one more nothing but ErrLimit is. Bytes count, not runes, and the line feed at the end does.
func TestLength(t *testing.T) {
	most := "late\n" + strings.Repeat(" ", api.MaxText-5)
	checkText(t, most, "0\nok\n")
	checkText(t, most+" ", "error 4\n")
	checkText(t, most[1:]+" \n", "error 4\n")
	checkText(t, most[:api.MaxText-1]+"\n", "0\nok\n")
	checkText(t, most+"\n", "error 4\n")
	checkText(t, strings.Repeat("é", api.MaxText/2), "error 3\n")
	checkText(t, strings.Repeat("é", api.MaxText/2+1), "error 4\n")
	checkText(t, strings.Repeat("\n", api.MaxText), strings.Repeat("ok\n", api.MaxText))
	checkText(t, strings.Repeat("\n", api.MaxText+1), "error 4\n")
	checkText(t, strings.Repeat("x", 10*api.MaxText), "error 4\n")
}

// TestLines covers promise 8.1: the empty text is one line; one line feed at the end is left out, a second one is not.
func TestLines(t *testing.T) {
	checkText(t, "", "ok\n")
	checkText(t, "\n", "ok\n")
	checkText(t, "\n\n", "ok\nok\n")
	checkText(t, "\n\n\n", "ok\nok\nok\n")
	checkText(t, "late", "0\n")
	checkText(t, "late\n", "0\n")
	checkText(t, "late\n\n", "0\nok\n")
	checkText(t, "\nlate", "ok\n0\n")
	checkText(t, "late\n\nheld", "0\nok\n0 0\n")
	checkText(t, "view\nview", "\n\n")
}

// TestBlanks covers promise 8.1: lines without words; several blanks between words, and at both ends.
func TestBlanks(t *testing.T) {
	checkTalk(t,
		asked{"", "ok"},
		asked{" ", "ok"},
		asked{"     ", "ok"},
		asked{" late", "0"},
		asked{"late ", "0"},
		asked{"   late   ", "0"},
		asked{"left   1  5    7", "fed, +1: 5 7 -"},
		asked{"   right 1   9 2  ", "fed, -1: 5 7 -, +1: 5 7 9 2"},
		asked{"mark  0   1 ", "mark"},
		asked{"  view ", "1: 5 7 9 2"},
	)
}

// TestNoBlanks covers promise 8.1: what is a blank elsewhere is part of a word here, and so are bytes that are no text.
func TestNoBlanks(t *testing.T) {
	for _, s := range []string{"\t", "\r", "\v", "\f", "\x00", "\u00a0", "\u0085", "\u2003", "\u3000", "\ufeff", "\xff", "\xa0", "\xe2\x80"} {
		checkTalk(t,
			asked{s, "error 3"},
			asked{"late" + s, "error 3"},
			asked{s + "late", "error 3"},
			asked{"late " + s, "error 3"},
			asked{"left" + s + "1 5 7", "error 3"},
			asked{"left 1" + s + "5 7", "error 3"},
			asked{"left 1 5 7" + s, "error 3"},
			asked{"fed", "0 0"},
		)
	}
}

// TestNoWord covers promise 8.1: a first word that is none of those that are told.
func TestNoWord(t *testing.T) {
	words := []string{"x", "ok", "error", "Left", "LEFT", "lef", "lefts", "left,", "leftright", "row", "out", "end", "load", "move", "feed", "view:", "1", "0", "-", "+", "plan\x00", "vi\u200bew", "ｖｉｅｗ"}
	for _, word := range words {
		for many := range 5 {
			checkTalk(t, asked{word + strings.Repeat(" 1", many), "error 3"})
		}
	}
	checkTalk(t, asked{"1 left 5 7", "error 3"}, asked{"1 5 7", "error 3"}, asked{"fed", "0 0"})
}

// wanted is how many numbers stand behind each word.
func wanted() map[string]int {
	return map[string]int{
		"plan": 3, "left": 3, "right": 3, "mark": 2,
		"marks": 0, "held": 0, "fed": 0, "late": 0, "view": 0, "groups": 0, "saved": 0, "reload": 0, "help": 0,
	}
}

// TestHowManyWords covers promise 8.1: a number too many, one too few, and more so, behind each word; nothing is changed then.
func TestHowManyWords(t *testing.T) {
	for word, right := range wanted() {
		for many := range 8 {
			line := word + strings.Repeat(" 1", many)
			if told := Session(line); (told == "error 3\n") != (many != right) {
				t.Errorf("Session(%q) = %q", line, told)
			}
		}
	}
	checkTalk(t,
		asked{"left 1 5 7", "fed, +1: 5 7 -"},
		asked{"left 1 5", "error 3"},
		asked{"left 1 5 7 9", "error 3"},
		asked{"mark 0", "error 3"},
		asked{"mark 0 6 6", "error 3"},
		asked{"plan 0 10", "error 3"},
		asked{"plan 0 10 3 3", "error 3"},
		asked{"view 1", "error 3"},
		asked{"view x", "error 3"},
		asked{"help help", "error 3"},
		asked{"fed", "1 0"},
		asked{"marks", "-1099511627777 -1099511627777"},
	)
}

// TestNumbersOtherwise covers promise 8.1: what is no number, or written otherwise, or not of 64 bits, at each place.
func TestNumbersOtherwise(t *testing.T) {
	words := []string{
		"x", "-", "+", "--1", "-+1", "+1", "+0", "-0", "00", "01", "-01", "007", "1.0", ".5", "1.", "1e3", "0x10", "0b1", "0o7", "1_000", "1,", ",1",
		"1-", "1x", "x1", "'1'", "\"1\"", "inf", "nan", "true", "left", "١", "１", "−1", "1\x00", "1\t", "\t1", "1\r", "1\xff",
		"9223372036854775808", "-9223372036854775809", "18446744073709551615", "18446744073709551617", "99999999999999999999999999", "00000000000000000000000000001",
		strings.Repeat("1", 400),
	}
	for _, word := range words {
		for _, line := range []string{"left # 1 1", "left 1 # 1", "left 1 1 #", "right # 1 1", "right 1 # 1", "right 1 1 #", "mark # 1", "mark 0 #", "plan # 1 1", "plan 0 # 1", "plan 0 1 #"} {
			line = strings.Replace(line, "#", word, 1)
			checkTalk(t, asked{line, "error 3"}, asked{"fed", "0 0"})
		}
	}
}

// TestNumbersOf64Bits covers promise 8.1: the least and the greatest are numbers: what they are used for is refused, not how they are written.
func TestNumbersOf64Bits(t *testing.T) {
	for _, n := range []string{"9223372036854775807", "-9223372036854775808"} {
		checkTalk(t,
			asked{"left " + n + " 0 0", "error 1"},
			asked{"left 0 " + n + " 0", "error 1"},
			asked{"right 0 0 " + n, "error 1"},
			asked{"mark " + n + " 0", "error 1"},
			asked{"mark 0 " + n, "error 2"},
			asked{"plan " + n + " 0 0", "error 2"},
			asked{"plan 0 " + n + " 0", "error 2"},
			asked{"plan 0 0 " + n, "error 1"},
		)
	}
}

// TestWrongPlan covers promise 8.1: Check's errors, the first one told; the engine stays the one that was.
func TestWrongPlan(t *testing.T) {
	checkTalk(t,
		asked{"left 1 5 7", "fed, +1: 5 7 -"},
		asked{"plan -1048577 0 0", "error 2"},
		asked{"plan 0 1048577 0", "error 2"},
		asked{"plan 5 4 0", "error 10"},
		asked{"plan 0 5 4", "error 1"},
		asked{"plan 0 5 -1", "error 1"},
		asked{"plan 1048577 5 4", "error 2"},
		asked{"plan 5 0 4", "error 10"},
		asked{"plan 5 0 x", "error 3"},
		asked{"plan 1048577 0 4 1", "error 3"},
		asked{"right 1 15 9", "fed, -1: 5 7 -, +1: 5 7 15 9"},
	)
}

// TestWrongMark covers promise 8.1: Move's errors, the first one told; the marks stay as they were.
func TestWrongMark(t *testing.T) {
	checkTalk(t,
		asked{"mark 0 5", "mark"},
		asked{"mark 0 5", "mark"},
		asked{"mark 0 4", "error 10"},
		asked{"mark 1 4", "mark"},
		asked{"mark 1 3", "error 10"},
		asked{"mark 2 9", "error 1"},
		asked{"mark -1 9", "error 1"},
		asked{"mark 0 1099511627777", "error 2"},
		asked{"mark 0 -1099511627777", "error 2"},
		asked{"mark 2 1099511627777", "error 1"},
		asked{"mark 2 x", "error 3"},
		asked{"marks", "5 4"},
	)
}

// TestLate covers promise 8.1: a row that is late is refused, and counts; one that is not good, or of another form, is told so first, and does not.
func TestLate(t *testing.T) {
	checkTalk(t,
		asked{"mark 0 5", "mark"},
		asked{"left 1 5 7", "error 10"},
		asked{"right 1 5 7", "fed, +1: - 5 7"},
		asked{"left 1 4 7", "error 10"},
		asked{"left 1 6 7", "fed, +1: 6 7 -"},
		asked{"left 1 5 1099511627777", "error 1"},
		asked{"left 1 5 9223372036854775808", "error 3"},
		asked{"late", "2"},
		asked{"fed", "3 1"},
		asked{"held", "1 0"},
		asked{"view", "1: - 5 7, 1: 6 7 -"},
	)
}

// TestFull covers promise 8.1: MaxRows are held of a side; there is no room for one more, but a late one is told late.
func TestFull(t *testing.T) {
	talk := []asked{{"plan 0 0 0", "plan"}, {"mark 0 0", "mark"}}
	for range api.MaxRows {
		talk = append(talk, asked{"left 1 5 7", "fed"})
	}
	talk = append(talk,
		asked{"left 1 5 7", "error 12"},
		asked{"left 1 0 7", "error 10"},
		asked{"held", "300 0"},
		asked{"fed", "301 0"},
		asked{"mark 1 5", "mark"},
		asked{"held", "0 0"},
		asked{"left 1 6 7", "fed"},
	)
	checkTalk(t, talk...)
}

// TestTooMuchToSave covers promise 8.1: Saved's error, of saved and of reload; the engine stays.
func TestTooMuchToSave(t *testing.T) {
	const each = 60
	talk := []asked{{"plan 0 0 0", "plan"}}
	view := ""
	for i := range each {
		talk = append(talk, asked{fmt.Sprint("left 1 0 ", 100+i), "fed"})
	}
	for i := range each {
		told := "fed"
		for j := range each {
			told += fmt.Sprintf(", +1: 0 %d 0 %d", 100+j, 100+i)
			view += fmt.Sprintf("1: 0 %d 0 %d, ", 100+i, 100+j)
		}
		talk = append(talk, asked{fmt.Sprint("right 1 0 ", 100+i), told})
	}
	talk = append(talk,
		asked{"saved", "error 4"},
		asked{"reload", "error 4"},
		asked{"saved", "error 4"},
		asked{"held", "60 60"},
		asked{"view", strings.TrimSuffix(view, ", ")},
	)
	checkTalk(t, talk...)
}

// TestAfterErrors covers promise 8.1: wrong lines between others change nothing of what these are answered.
func TestAfterErrors(t *testing.T) {
	wrong := []string{"x", "view 1", "left 1 1", "left x 1 1", "plan 5 0 0", "plan 0 5 4", "mark 2 0", "mark 0 1099511627777", "left 1099511627777 0 0"}
	d := die(11)
	for range 50 {
		plain, between := "", ""
		for range 40 {
			line := drawnLine(&d)
			plain += line + "\n"
			between += wrong[d.below(len(wrong))] + "\n" + line + "\n"
		}
		want := strings.Split(Session(plain), "\n")
		got := strings.Split(Session(between), "\n")
		if len(got) != 2*40+1 {
			t.Fatalf("Session(%.300q) tells %d lines", between, len(got)-1)
		}
		for i := range 40 {
			if !strings.HasPrefix(got[2*i], "error ") || got[2*i+1] != want[i] {
				t.Fatalf("%.300q: line %d: %q, then %q, want %q", between, 2*i+1, got[2*i], got[2*i+1], want[i])
			}
		}
	}
}

// TestBeginning covers promise 8.1: the answers to the first lines of a text are the beginning of the answers to all.
func TestBeginning(t *testing.T) {
	d := die(3)
	for range 30 {
		text := ""
		for range 1 + d.below(30) {
			text += drawnLine(&d) + "\n"
		}
		whole := Session(text)
		for i := range len(text) {
			if text[i] == '\n' && !strings.HasPrefix(whole, Session(text[:i])) {
				t.Fatalf("Session(%q) = %q, no beginning of %q", text[:i], Session(text[:i]), whole)
			}
		}
	}
}

// TestRun covers promise 8.1: drawn texts are answered as an engine is that is asked without them.
func TestRun(t *testing.T) {
	d := die(1)
	for range 150 {
		var talk []asked
		e, _ := engine.New(api.Plan{Low: 0, High: 10, Mode: api.Full})
		for range d.below(80) {
			line := drawnLine(&d)
			var told string
			e, told = plainly(e, line)
			talk = append(talk, asked{line, told})
		}
		if len(talk) > 0 {
			checkTalk(t, talk...)
		}
	}
}

// TestTwoSessions covers promise 8.1, and P4: each has an engine of its own, and one text is answered the same each time.
func TestTwoSessions(t *testing.T) {
	text := "plan 0 5 1\nleft 1 5 7\nmark 0 9\nfed\nmarks\nview\n"
	first := Session(text)
	checkText(t, "fed\nmarks\nview\nleft 1 5 7\n", "0 0\n-1099511627777 -1099511627777\n\nfed, +1: 5 7 -\n")
	checkText(t, text, first)
}

// TestAnyBytes covers promise 8.1, and P1: whatever a text is, each of its lines is answered by one.
func TestAnyBytes(t *testing.T) {
	d := die(5)
	bits := []string{"left", "right", "plan", "mark", "view", "reload", " ", " ", " ", "\n", "\n", "-", "0", "1", "9", "99999999999999999999", "\x00", "\xff", "é", "\t", "\r\n"}
	for range 2000 {
		text := ""
		for range d.below(60) {
			text += bits[d.below(len(bits))]
		}
		got := Session(text)
		want := strings.Count(strings.TrimSuffix(text, "\n"), "\n") + 1
		if strings.Count(got, "\n") != want || !strings.HasSuffix(got, "\n") {
			t.Fatalf("Session(%q) = %q: not %d lines", text, got, want)
		}
	}
}

// drawnLine is a line that may be right.
func drawnLine(d *die) string {
	asks := []string{"marks", "held", "fed", "late", "view", "groups", "saved", "reload", "help", "", "x", "view 1"}
	switch d.below(8) {
	case 0:
		return fmt.Sprintf("mark %d %d", d.below(3), d.below(30))
	case 1, 2:
		return asks[d.below(len(asks))]
	case 3:
		if d.below(8) == 0 {
			return fmt.Sprintf("plan %d %d %d", d.below(7)-3, d.below(7)-1, d.below(5))
		}
	}
	return fmt.Sprintf("%s %d %d %d", []string{"left", "right"}[d.below(2)], d.below(3)-1, d.below(40), d.below(9)-4)
}

// plainly is what an engine tells that is asked by its face, and the engine that there is then; of lines as drawnLine makes them.
func plainly(e *engine.Engine, line string) (*engine.Engine, string) {
	var word string
	var n [3]int
	fmt.Sscanf(line, "%s %d %d %d", &word, &n[0], &n[1], &n[2])
	var err error
	told := word
	switch line {
	case "":
		return e, "ok"
	case "x", "view 1":
		return e, "error 3"
	case "help":
		return e, "fed groups help held late left mark marks plan reload right saved view"
	case "marks":
		return e, fmt.Sprint(e.Mark(0), e.Mark(1))
	case "held":
		return e, fmt.Sprint(e.Held(0), e.Held(1))
	case "fed":
		return e, fmt.Sprint(e.Fed(0), e.Fed(1))
	case "late":
		return e, fmt.Sprint(e.Late())
	case "view":
		return e, plainView(e.View())
	case "groups":
		return e, plainGroups(e.Groups())
	case "saved", "reload":
		text, err := e.Saved()
		if err != nil {
			return e, fmt.Sprintf("error %d", api.Tell(err))
		}
		if line == "saved" {
			return e, fmt.Sprint(len(text))
		}
		e, _ = engine.Load(text)
		return e, "reload"
	}
	switch word {
	case "plan":
		var planned *engine.Engine
		planned, err = engine.New(api.Plan{Low: n[0], High: n[1], Mode: n[2]})
		if err == nil {
			e = planned
		}
	case "mark":
		err = e.Move(n[0], n[1])
	case "left", "right":
		var changes []api.Change
		changes, err = e.Feed(strings.Index("lr", word[:1]), api.Row{Key: n[0], Time: n[1], Value: n[2]})
		told = "fed"
		for _, c := range changes {
			sign := map[bool]string{false: "+", true: "-"}[c.Gone]
			told += ", " + sign + plainOut(c.Out)
		}
	}
	if err != nil {
		told = fmt.Sprintf("error %d", api.Tell(err))
	}
	return e, told
}

func plainOut(x api.Out) string {
	l, r := "-", "-"
	if x.HasLeft {
		l = fmt.Sprintf("%d %d", x.Left.Time, x.Left.Value)
	}
	if x.HasRight {
		r = fmt.Sprintf("%d %d", x.Right.Time, x.Right.Value)
	}
	return fmt.Sprintf("%d: %s %s", x.Key, l, r)
}

func plainView(view []api.Out) string {
	told, between := "", ""
	for _, x := range view {
		told += between + plainOut(x)
		between = ", "
	}
	return told
}

func plainGroups(groups []api.Group) string {
	told, between := "", ""
	for _, g := range groups {
		told += between + fmt.Sprintf("%d: %d %d", g.Key, g.Count, g.Sum)
		if g.Some {
			told += fmt.Sprintf(" %d %d", g.Least, g.Most)
		}
		between = ", "
	}
	return told
}

// checkTalk asks all lines in one text, and looks at each answer.
func checkTalk(t *testing.T, talk ...asked) {
	t.Helper()
	text := ""
	for _, a := range talk {
		text += a.line + "\n"
	}
	answers := Session(text)
	if strings.Count(answers, "\n") != len(talk) || !strings.HasSuffix(answers, "\n") {
		t.Fatalf("Session(%.300q) = %.600q: not %d lines", text, answers, len(talk))
	}
	for i, got := range strings.Split(answers, "\n")[:len(talk)] {
		if got != talk[i].want {
			t.Errorf("line %d, %.100q, is answered %.300q, want %.300q", i+1, talk[i].line, got, talk[i].want)
		}
	}
}

func checkText(t *testing.T, text, want string) {
	t.Helper()
	if got := Session(text); got != want {
		t.Errorf("Session(%.60q of %d bytes) = %.300q, want %.300q", text, len(text), got, want)
	}
}

package desk

import (
	"iter"
	"strconv"
	"strings"

	"estuary/api"
)

// blank stands between words. (No other space does: a tab is part of a word.)
const blank rune = ' '

// lines are those of a text; a line feed at its end begins no other one.
func lines(text string) iter.Seq[string] {
	return func(yield func(string) bool) {
		rest, more := strings.TrimSuffix(text, "\n"), true
		for more {
			var line string
			line, rest, more = strings.Cut(rest, "\n")
			if !yield(line) {
				return
			}
		}
	}
}

func words(line string) []string {
	return strings.FieldsFunc(line, func(r rune) bool { return r == blank })
}

// numbers throws ErrForm, unless each word is one.
func numbers(words []string) []int {
	all := make([]int, len(words))
	for i, word := range words {
		n, err := strconv.ParseInt(word, 10, 64)
		// Other ways to write it are read, too: a nought ahead, a plus, -0.
		if err != nil || strconv.FormatInt(n, 10) != word {
			panic(api.ErrForm)
		}
		all[i] = int(n)
	}
	return all
}

func list(told []string) string {
	return strings.Join(told, ", ")
}

func spaced(all ...int) string {
	var told []string
	for _, n := range all {
		told = append(told, strconv.Itoa(n))
	}
	return strings.Join(told, string(blank))
}

func both(of func(side int) int) string {
	return spaced(of(api.Left), of(api.Right))
}

func tellWrong(err error) string {
	return "error " + strconv.Itoa(int(api.Tell(err)))
}

func tellChange(c api.Change) string {
	if c.Gone {
		return "-" + tellOut(c.Out)
	}
	return "+" + tellOut(c.Out)
}

func tellOut(x api.Out) string {
	return strconv.Itoa(x.Key) + ": " + tellRow(x.HasLeft, x.Left) + " " + tellRow(x.HasRight, x.Right)
}

func tellRow(has bool, r api.Row) string {
	if !has {
		return "-"
	}
	return spaced(r.Time, r.Value)
}

func tellGroup(g api.Group) string {
	told := strconv.Itoa(g.Key) + ": " + spaced(g.Count, g.Sum)
	if g.Some {
		told += " " + spaced(g.Least, g.Most)
	}
	return told
}

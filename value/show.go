package value

import (
	"strconv"
	"strings"

	"dumbwaiter/api"
)

// momentLength is the number of bytes of the text of a Moment, with the `@`.
const momentLength = len("@2026-11-17T09:05:00")

// Show returns the text of a value.
func Show(v api.Value) string {
	v = clean(v)
	switch v.Kind {
	case api.Bool:
		return strconv.FormatBool(v.N == 1)
	case api.Int:
		return strconv.Itoa(v.N)
	case api.Text:
		return "'" + strings.ReplaceAll(v.S, "'", "''") + "'"
	case api.Moment:
		return "@" + showMoment(v.N)
	}
	return "null"
}

// showMoment returns the text of a Moment without the `@`.
func showMoment(n int) string {
	d := dateOf(n)
	return padded(d.year, 4) + "-" + padded(d.month, 2) + "-" + padded(d.day, 2) +
		"T" + padded(d.hour, 2) + ":" + padded(d.minute, 2) + ":" + padded(d.second, 2)
}

// padded returns a number with at least so many digits.
func padded(n, digits int) string {
	s := strconv.Itoa(n)
	return strings.Repeat("0", max(digits-len(s), 0)) + s
}

// Read returns the value with a text.
func Read(s string) (api.Value, api.Errno) {
	v := guess(s)
	// guess is generous: only the text that Show writes counts.
	if Show(v) != s {
		return api.Value{}, api.ErrSyntax
	}
	return v, api.OK
}

// guess returns the only value that can have a text; it need not have it.
func guess(s string) api.Value {
	switch {
	case s == "null":
		return api.Value{}
	case s == "true" || s == "false":
		return Bool(s == "true")
	case strings.HasPrefix(s, "'"):
		return guessText(s)
	case strings.HasPrefix(s, "@"):
		return guessMoment(s)
	}
	n, e := strconv.Atoi(s)
	if e != nil {
		return api.Value{}
	}
	return number(api.Int, n)
}

// guessText returns the Text between two quotes.
func guessText(s string) api.Value {
	if len(s) < 2 {
		return api.Value{}
	}
	return text(strings.ReplaceAll(s[1:len(s)-1], "''", "'"))
}

// guessMoment returns the Moment whose numbers stand at their places.
func guessMoment(s string) api.Value {
	if len(s) != momentLength {
		return api.Value{}
	}
	return Date(digitsAt(s, 1, 5), digitsAt(s, 6, 8), digitsAt(s, 9, 11), digitsAt(s, 12, 14), digitsAt(s, 15, 17), digitsAt(s, 18, 20))
}

// digitsAt returns the number between two places of a text, -1 if there is none: that is part of no date.
func digitsAt(s string, from, to int) int {
	n, e := strconv.Atoi(s[from:to])
	if e != nil {
		return -1
	}
	return n
}

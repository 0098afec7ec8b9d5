package value

import (
	"dumbwaiter/api"
)

// Steps of a pattern that are no bytes.
const (
	anyBytes = -1
	oneByte  = -2
)

// Like says whether a text has a pattern.
func Like(a, pattern api.Value) api.Value {
	a, pattern = clean(a), clean(pattern)
	if a.Kind != api.Text || pattern.Kind != api.Text {
		return api.Value{}
	}
	return Bool(matches(a.S, patternSteps(pattern.S)))
}

// patternSteps returns what a pattern stands for: bytes, anyBytes and oneByte.
func patternSteps(pattern string) []int {
	var steps []int
	for i := 0; i < len(pattern); i++ {
		switch {
		case pattern[i] == '%':
			steps = append(steps, anyBytes)
		case pattern[i] == '_':
			steps = append(steps, oneByte)
		case pattern[i] == '\\' && i+1 < len(pattern):
			i++
			steps = append(steps, int(pattern[i]))
		default:
			steps = append(steps, int(pattern[i]))
		}
	}
	return steps
}

// matches reports whether a text has the steps of a pattern. If bytes do not fit, only the last anyBytes takes one more: what an earlier one could take, the last one can take, too.
func matches(s string, steps []int) bool {
	at, step := 0, 0
	lastAny, taken := -1, 0
	for at < len(s) {
		switch {
		case step < len(steps) && steps[step] == anyBytes:
			lastAny, taken = step, at
			step++
		case step < len(steps) && (steps[step] == oneByte || steps[step] == int(s[at])):
			at++
			step++
		case lastAny >= 0:
			taken++
			at, step = taken, lastAny+1
		default:
			return false
		}
	}
	for step < len(steps) && steps[step] == anyBytes {
		step++
	}
	return step == len(steps)
}

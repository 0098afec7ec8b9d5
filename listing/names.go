package listing

import (
	"strings"

	"dumbwaiter/api"
)

// IsTall reports whether a text is a tall name.
func IsTall(s string) bool { return len(s) <= api.MaxTall && IsTallWord(s) && IsLetter(s[0]) }

// IsTallWord reports whether a text is what texts of schemas take for a tall name, even if it is too long or begins with another byte than a letter.
func IsTallWord(s string) bool { return Consists(s, "_") }

// Consists reports whether a text has bytes, and only letters, digits and some others.
func Consists(s, others string) bool {
	for i := range len(s) {
		if !IsLetter(s[i]) && (s[i] < '0' || s[i] > '9') && strings.IndexByte(others, s[i]) < 0 {
			return false
		}
	}
	return s != ""
}

// IsLetter reports whether a byte is from a to z.
func IsLetter(c byte) bool { return c >= 'a' && c <= 'z' }

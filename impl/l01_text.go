package impl

import (
	"strconv"
	"strings"
)

const maxNameBytes = 8
const maxPadded = 2000

func FormatInt(n int) string { return strconv.Itoa(n) }

func ParseInt(s string) (int, bool) {
	n, err := strconv.Atoi(s)
	// Atoi also accepts texts that FormatInt never returns, such as +5, -0 and 07.
	if err != nil || FormatInt(n) != s {
		return 0, false
	}
	return n, true
}

func IsDigits(s string) bool {
	for _, r := range s {
		if !isDigit(r) {
			return false
		}
	}
	return s != ""
}

func IsName(s string) bool {
	if s == "" || len(s) > maxNameBytes {
		return false
	}
	for i, r := range s {
		if !isLetter(r) && (i == 0 || !isDigit(r)) {
			return false
		}
	}
	return true
}

func isDigit(r rune) bool { return '0' <= r && r <= '9' }

func isLetter(r rune) bool { return 'a' <= r && r <= 'z' }

func SplitAny(s string, by string) []string {
	var cuts [256]bool
	for i := range len(by) {
		cuts[by[i]] = true
	}
	var parts []string
	start := 0
	// Bytes and not runes: a byte of by also splits in the middle of a longer rune.
	for i := range len(s) {
		if cuts[s[i]] {
			parts = append(parts, s[start:i])
			start = i + 1
		}
	}
	return append(parts, s[start:])
}

func SplitLines(s string) []string {
	lines := SplitAny(s, "\n")
	last := len(lines) - 1
	// The text after the last newline is a line of its own only if there is some.
	if lines[last] == "" {
		return lines[:last]
	}
	return lines
}

func Join(l []string, by string) string { return joinAll(by, l...) }

func joinAll(by string, parts ...string) string { return strings.Join(parts, by) }

func PadZeros(s string, n int) string {
	if len(s) >= n || n > maxPadded {
		return s
	}
	return joinAll("", strings.Repeat("0", n-len(s)), s)
}

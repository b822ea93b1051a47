// Package words is no chapter: it holds what the texts of the layers have in common, which are names, numbers,
// and lines of words with single blanks between; and how things are found by their names.
package words

import (
	"iter"
	"slices"
	"strconv"
	"strings"

	"agraffe/api"
)

// IsName tells whether s is a name: 1 to 12 letters, digits and "-", beginning with a letter.
func IsName(s string) bool {
	if s == "" || len(s) > api.MaxName || !isLetter(s[0]) {
		return false
	}
	for i := range len(s) {
		if c := s[i]; !isLetter(c) && c != '-' && (c < '0' || c > '9') {
			return false
		}
	}
	return true
}

func isLetter(c byte) bool {
	return 'a' <= c && c <= 'z' || 'A' <= c && c <= 'Z'
}

// NumbersOf finds the numbers of elements by their names; of several elements with one name it finds the first one.
func NumbersOf[T any](l []T, nameOf func(T) string) map[string]int {
	numbers := make(map[string]int)
	for n, x := range slices.Backward(l) {
		numbers[nameOf(x)] = n
	}
	return numbers
}

// NameError is for the name of the element n of a list, in which its elements are found by NumbersOf.
func NameError(name string, n int, numbers map[string]int) api.Errno {
	if !IsName(name) {
		return api.ErrName
	}
	if numbers[name] < n {
		return api.ErrExists
	}
	return api.OK
}

// NamesError is for names by which NumbersOf has found elements, each of them once.
func NamesError(l []string, numbers map[string]int) api.Errno {
	for n, name := range l {
		if _, found := numbers[name]; !found {
			return api.ErrMissing
		}
		if slices.Contains(l[:n], name) {
			return api.ErrExists
		}
	}
	return api.OK
}

// Number reads a number of at most so many digits.
// It accepts a text only if the number that it stands for is written like that: this refuses plus signs,
// leading zeros and "-0" at once.
func Number(s string, digits int) (int, bool) {
	n, err := strconv.Atoi(s)
	if err != nil || strconv.Itoa(n) != s || len(strings.TrimPrefix(s, "-")) > digits {
		return 0, false
	}
	return n, true
}

// Numbers reads words that are all numbers of at most so many digits.
func Numbers(l []string, digits int) ([]int, bool) {
	numbers := make([]int, len(l))
	for i, s := range l {
		n, fits := Number(s, digits)
		if !fits {
			return nil, false
		}
		numbers[i] = n
	}
	return numbers, true
}

// Joined writes parts, each of which is a string or an int, with single blanks between.
func Joined(parts ...any) string {
	var text strings.Builder
	for i, part := range parts {
		if i > 0 {
			text.WriteByte(' ')
		}
		switch p := part.(type) {
		case string:
			text.WriteString(p)
		case int:
			text.WriteString(strconv.Itoa(p))
		}
	}
	return text.String()
}

// Line writes a line of parts, and its line feed.
func Line(parts ...any) string {
	return Joined(parts...) + "\n"
}

// Lines yields the numbers of the lines of a text, from 1 on, and their words.
// A last line without a line feed has no words, so that it is none of any form; all other lines have at least one,
// which may be empty.
func Lines(t string) iter.Seq2[int, []string] {
	return func(yield func(int, []string) bool) {
		for n := 1; t != ""; n++ {
			line, rest, ended := strings.Cut(t, "\n")
			var l []string
			if ended {
				l = strings.Split(line, " ")
			}
			if !yield(n, l) {
				return
			}
			t = rest
		}
	}
}

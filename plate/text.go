package plate

import (
	"strings"

	"agraffe/api"
	"agraffe/words"
)

const (
	forceWord = "force"
	maxDigits = 10
)

// Print returns the text of forces (P3.7).
func Print(l []api.Pulled) (string, api.Errno) {
	if e := CheckForces(l); e != api.OK {
		return "", e
	}
	var text strings.Builder
	for _, f := range l {
		text.WriteString(words.Line(forceWord, f.At[0], f.At[1], f.At[2], f.Force[0], f.Force[1], f.Force[2]))
	}
	return text.String(), api.OK
}

// Parse returns the forces with a text, or the first line that is wrong (P3.7).
func Parse(t string) ([]api.Pulled, int, api.Errno) {
	if len(t) > api.MaxText {
		return nil, 0, api.ErrLarge
	}
	var forces []api.Pulled
	for n, l := range words.Lines(t) {
		f, fits := forceOf(l)
		if !fits {
			return nil, n, api.ErrSyntax
		}
		forces = append(forces, f)
	}
	if e := CheckForces(forces); e != api.OK {
		return nil, 0, e
	}
	return forces, 0, api.OK
}

func forceOf(l []string) (api.Pulled, bool) {
	if len(l) != 7 || l[0] != forceWord {
		return api.Pulled{}, false
	}
	n, fit := words.Numbers(l[1:], maxDigits)
	if !fit {
		return api.Pulled{}, false
	}
	return api.Pulled{At: [3]int(n[:3]), Force: [3]int(n[3:])}, true
}

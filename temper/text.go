package temper

import (
	"strings"

	"agraffe/api"
	"agraffe/words"
)

const (
	maxBytes  = 300
	maxDigits = 3
	wordCount = 1 + 2*classCount
)

// Print returns the text of a temperament (P6.9).
func Print(t api.Temperament) (string, api.Errno) {
	if e := CheckTemperament(t); e != api.OK {
		return "", e
	}
	l := []any{t.Name}
	for i := range classCount {
		l = append(l, t.Pyth[i], t.Synt[i])
	}
	return words.Joined(l...), api.OK
}

// Parse returns the temperament with a text (P6.9).
func Parse(s string) (api.Temperament, api.Errno) {
	if len(s) > maxBytes {
		return api.Temperament{}, api.ErrLarge
	}
	l := strings.Split(s, " ")
	if len(l) != wordCount {
		return api.Temperament{}, api.ErrSyntax
	}
	n, fit := words.Numbers(l[1:], maxDigits)
	if !fit {
		return api.Temperament{}, api.ErrSyntax
	}
	t := api.Temperament{Name: l[0]}
	for i := range classCount {
		t.Pyth[i], t.Synt[i] = n[2*i], n[2*i+1]
	}
	if e := CheckTemperament(t); e != api.OK {
		return api.Temperament{}, e
	}
	return t, api.OK
}

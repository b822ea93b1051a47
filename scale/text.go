package scale

import (
	"strings"

	"agraffe/api"
	"agraffe/words"
)

const (
	maxDigits = 9
	noWrap    = "-" // stands in texts for a wrap that there is not
)

// Print returns the text of a stringing (P2.7).
func Print(s api.Stringing) (string, api.Errno) {
	if _, e := CheckStringing(s); e != api.OK {
		return "", e
	}
	var text strings.Builder
	text.WriteString(words.Line("fork", s.Fork))
	for _, w := range s.Wires {
		text.WriteString(words.Line("wire", w.Name, w.Mass, w.Strength, w.Stiff))
	}
	for _, u := range s.Unisons {
		p, x := u.Pitch, u.Strand
		wrap := x.Wrap
		if wrap == "" {
			wrap = noWrap
		}
		text.WriteString(words.Line("unison", p.Two, p.Three, p.Five, p.Den, u.Count, x.Length, x.Core, x.Over, x.Wire, wrap))
	}
	return text.String(), api.OK
}

// Parse returns the stringing with a text, or the first line that is wrong (P2.7).
func Parse(t string) (api.Stringing, int, api.Errno) {
	if len(t) > api.MaxText {
		return api.Stringing{}, 0, api.ErrLarge
	}
	if t == "" {
		return api.Stringing{}, 1, api.ErrSyntax
	}
	var s api.Stringing
	for n, l := range words.Lines(t) {
		if !takeLine(&s, n, l) {
			return api.Stringing{}, n, api.ErrSyntax
		}
	}
	if _, e := CheckStringing(s); e != api.OK {
		return api.Stringing{}, 0, e
	}
	return s, 0, api.OK
}

// takeLine adds what a line says to a stringing, and tells whether it may stand there.
func takeLine(s *api.Stringing, n int, l []string) bool {
	switch {
	case n == 1:
		return takeFork(s, l)
	case len(l) == 5 && l[0] == "wire" && len(s.Unisons) == 0:
		return takeWire(s, l[1], l[2:])
	case len(l) == 11 && l[0] == "unison":
		return takeUnison(s, l[1:9], l[9], l[10])
	}
	return false
}

func takeFork(s *api.Stringing, l []string) bool {
	if len(l) != 2 || l[0] != "fork" {
		return false
	}
	fork, fits := words.Number(l[1], maxDigits)
	s.Fork = fork
	return fits
}

func takeWire(s *api.Stringing, name string, numbers []string) bool {
	n, fit := words.Numbers(numbers, maxDigits)
	if fit {
		s.Wires = append(s.Wires, api.Wire{Name: name, Mass: n[0], Strength: n[1], Stiff: n[2]})
	}
	return fit
}

func takeUnison(s *api.Stringing, numbers []string, wire, wrap string) bool {
	n, fit := words.Numbers(numbers, maxDigits)
	if !fit {
		return false
	}
	if wrap == noWrap {
		wrap = ""
	}
	s.Unisons = append(s.Unisons, api.Unison{
		Pitch:  api.Pitch{Two: n[0], Three: n[1], Five: n[2], Den: n[3]},
		Count:  n[4],
		Strand: api.Strand{Length: n[5], Core: n[6], Over: n[7], Wire: wire, Wrap: wrap},
	})
	return true
}

package regulation

import (
	"strings"

	"agraffe/api"
	"agraffe/words"
)

const (
	maxDigits   = 7
	measureWord = "measure"
	adjustWord  = "adjust"
	onWord      = "on"
	afterWord   = "after"
)

// FormatStep returns the text of a step (P5.10).
func FormatStep(s api.Step) string {
	return words.Joined(s.Adjustment, s.Steps)
}

// ParseStep returns the step with a text (P5.10).
func ParseStep(s string) (api.Step, api.Errno) {
	adjustment, steps, _ := strings.Cut(s, " ")
	n, fit := words.Numbers([]string{adjustment, steps}, maxDigits)
	if !fit {
		return api.Step{}, api.ErrSyntax
	}
	return api.Step{Adjustment: n[0], Steps: n[1]}, api.OK
}

// Print returns the text of a bench (P5.10).
func Print(b api.Bench) (string, api.Errno) {
	if e := CheckBench(b); e != api.OK {
		return "", e
	}
	var text strings.Builder
	for _, m := range b.Measures {
		text.WriteString(words.Line(measureWord, m.Name, m.Value, m.Low, m.High))
	}
	for _, a := range b.Adjustments {
		text.WriteString(adjustmentLine(a))
	}
	return text.String(), api.OK
}

func adjustmentLine(a api.Adjustment) string {
	l := []any{adjustWord, a.Name, a.Least, a.Most, a.Pass}
	for _, f := range a.Effects {
		l = append(l, onWord, f.Measure, f.By)
	}
	for _, name := range a.After {
		l = append(l, afterWord, name)
	}
	return words.Line(l...)
}

// Parse returns the bench with a text, or the first line that is wrong (P5.10).
func Parse(s string) (api.Bench, int, api.Errno) {
	if len(s) > api.MaxText {
		return api.Bench{}, 0, api.ErrLarge
	}
	var b api.Bench
	for n, l := range words.Lines(s) {
		if !takeLine(&b, l) {
			return api.Bench{}, n, api.ErrSyntax
		}
	}
	if e := CheckBench(b); e != api.OK {
		return api.Bench{}, 0, e
	}
	return b, 0, api.OK
}

// takeLine adds what a line says to a bench, and tells whether it may stand there.
func takeLine(b *api.Bench, l []string) bool {
	switch {
	case len(l) == 5 && l[0] == measureWord && len(b.Adjustments) == 0:
		return takeMeasure(b, l[1], l[2:])
	case len(l) >= 5 && l[0] == adjustWord:
		return takeAdjustment(b, l[1], l[2:5], l[5:])
	}
	return false
}

func takeMeasure(b *api.Bench, name string, numbers []string) bool {
	n, fit := words.Numbers(numbers, maxDigits)
	if fit {
		b.Measures = append(b.Measures, api.Measure{Name: name, Value: n[0], Low: n[1], High: n[2]})
	}
	return fit
}

func takeAdjustment(b *api.Bench, name string, numbers, rest []string) bool {
	n, fit := words.Numbers(numbers, maxDigits)
	if !fit {
		return false
	}
	a := api.Adjustment{Name: name, Least: n[0], Most: n[1], Pass: n[2]}
	for len(rest) >= 3 && rest[0] == onWord {
		by, fits := words.Number(rest[2], maxDigits)
		if !fits {
			return false
		}
		a.Effects = append(a.Effects, api.Effect{Measure: rest[1], By: by})
		rest = rest[3:]
	}
	for len(rest) >= 2 && rest[0] == afterWord {
		a.After = append(a.After, rest[1])
		rest = rest[2:]
	}
	b.Adjustments = append(b.Adjustments, a)
	return len(rest) == 0
}

package action

import (
	"slices"
	"strings"

	"agraffe/api"
	"agraffe/words"
)

const (
	maxDigits  = 7
	actionWord = "action"
	partWord   = "part"
	eventWord  = "event"
	leadWord   = "lead"
	riseWord   = "rise"
	fallWord   = "fall"
	noDriver   = "-" // stands in texts for the driver of a part that has none
)

// Print returns the text of an action (P4.9).
func Print(a api.Action) (string, api.Errno) {
	if e := CheckAction(a); e != api.OK {
		return "", e
	}
	var text strings.Builder
	text.WriteString(words.Line(actionWord, a.Dip))
	for _, p := range a.Parts {
		text.WriteString(partLine(p))
	}
	for _, v := range a.Events {
		way := riseWord
		if v.Falling {
			way = fallWord
		}
		text.WriteString(words.Line(eventWord, v.Name, v.Part, way, v.Level))
	}
	for _, l := range a.Leads {
		text.WriteString(words.Line(leadWord, l.Weight, l.Place))
	}
	return text.String(), api.OK
}

func partLine(p api.ActionPart) string {
	driver := p.Driver
	if driver == "" {
		driver = noDriver
	}
	l := []any{partWord, p.Name, driver, p.Weight, p.Friction}
	for _, k := range p.Curve.Corners {
		l = append(l, k.X.Num, k.Y.Num)
	}
	return words.Line(l...)
}

// Parse returns the action with a text, or the first line that is wrong (P4.9).
func Parse(s string) (api.Action, int, api.Errno) {
	if len(s) > api.MaxText {
		return api.Action{}, 0, api.ErrLarge
	}
	if s == "" {
		return api.Action{}, 1, api.ErrSyntax
	}
	var a api.Action
	for n, l := range words.Lines(s) {
		if !takeLine(&a, n, l) {
			return api.Action{}, n, api.ErrSyntax
		}
	}
	if e := CheckAction(a); e != api.OK {
		return api.Action{}, 0, e
	}
	return a, 0, api.OK
}

// takeLine adds what a line says to an action, and tells whether it may stand there.
func takeLine(a *api.Action, n int, l []string) bool {
	switch {
	case n == 1:
		return takeDip(a, l)
	case len(l) >= 5 && l[0] == partWord && len(a.Events) == 0 && len(a.Leads) == 0:
		return takePart(a, l[1], l[2], l[3:5], l[5:])
	case len(l) == 5 && l[0] == eventWord && len(a.Leads) == 0:
		return takeEvent(a, l[1], l[2], l[3], l[4])
	case len(l) == 3 && l[0] == leadWord:
		return takeLead(a, l[1:])
	}
	return false
}

func takeDip(a *api.Action, l []string) bool {
	if len(l) != 2 || l[0] != actionWord {
		return false
	}
	dip, fits := words.Number(l[1], maxDigits)
	a.Dip = dip
	return fits
}

func takePart(a *api.Action, name, driver string, weights, corners []string) bool {
	n, fit := words.Numbers(weights, maxDigits)
	if !fit || driver == "" {
		return false
	}
	if driver == noDriver {
		driver = ""
	}
	p := api.ActionPart{Name: name, Driver: driver, Weight: n[0], Friction: n[1]}
	for pair := range slices.Chunk(corners, 2) {
		n, fit := words.Numbers(pair, maxDigits)
		if !fit || len(n) != 2 {
			return false
		}
		p.Curve.Corners = append(p.Curve.Corners, knee(n[0], n[1]))
	}
	a.Parts = append(a.Parts, p)
	return true
}

func takeEvent(a *api.Action, name, part, way, level string) bool {
	n, fits := words.Number(level, maxDigits)
	if !fits || way != riseWord && way != fallWord {
		return false
	}
	a.Events = append(a.Events, api.ActionEvent{Name: name, Part: part, Level: n, Falling: way == fallWord})
	return true
}

func takeLead(a *api.Action, numbers []string) bool {
	n, fit := words.Numbers(numbers, maxDigits)
	if fit {
		a.Leads = append(a.Leads, api.Lead{Weight: n[0], Place: n[1]})
	}
	return fit
}

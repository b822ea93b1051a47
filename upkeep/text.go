package upkeep

import (
	"strings"

	"agraffe/api"
	"agraffe/words"
)

const (
	readingDigits = 7
	countDigits   = 10
)

// FormatReading returns the text of a reading (P7.9).
func FormatReading(c api.Climate) string {
	return words.Joined(c.Day, c.Humidity)
}

// ParseReading returns the reading with a text (P7.9).
func ParseReading(s string) (api.Climate, api.Errno) {
	day, humidity, _ := strings.Cut(s, " ")
	n, fit := words.Numbers([]string{day, humidity}, readingDigits)
	if !fit {
		return api.Climate{}, api.ErrSyntax
	}
	c := api.Climate{Day: n[0], Humidity: n[1]}
	if e := readingError(c); e != api.OK {
		return api.Climate{}, e
	}
	return c, api.OK
}

// Print returns the texts of counts (P7.9).
func Print(l []api.BeatCount) (string, api.Errno) {
	if e := CheckCounts(l); e != api.OK {
		return "", e
	}
	var text strings.Builder
	for _, c := range l {
		text.WriteString(words.Line(c.Test.Low, c.Test.High, c.Test.P, c.Test.Q, c.Heard.Lo, c.Heard.Hi))
	}
	return text.String(), api.OK
}

// Parse returns the counts with a text, or the first line that is wrong (P7.9).
func Parse(s string) ([]api.BeatCount, int, api.Errno) {
	if len(s) > api.MaxText {
		return nil, 0, api.ErrLarge
	}
	var counts []api.BeatCount
	for n, l := range words.Lines(s) {
		c, fits := countOf(l)
		if !fits {
			return nil, n, api.ErrSyntax
		}
		counts = append(counts, c)
	}
	if e := CheckCounts(counts); e != api.OK {
		return nil, 0, e
	}
	return counts, 0, api.OK
}

func countOf(l []string) (api.BeatCount, bool) {
	n, fit := words.Numbers(l, countDigits)
	if !fit || len(n) != 6 {
		return api.BeatCount{}, false
	}
	return api.BeatCount{
		Test:  api.BeatTest{Low: n[0], High: n[1], P: n[2], Q: n[3]},
		Heard: api.Range{Lo: n[4], Hi: n[5]},
	}, true
}

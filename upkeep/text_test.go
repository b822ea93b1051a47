package upkeep_test

import (
	"math"
	"slices"
	"strings"
	"testing"

	"agraffe/api"
	"agraffe/upkeep"
)

// P7.9: the text of any reading.
func TestFormatReading(t *testing.T) {
	for want, c := range map[string]api.Climate{
		"5 450":       reading(5, 450),
		"0 0":         {},
		"100000 1000": reading(100000, 1000),
		"-1 -2":       reading(-1, -2),
		"-9223372036854775808 9223372036854775807": reading(math.MinInt, math.MaxInt),
	} {
		if got := upkeep.FormatReading(c); got != want {
			t.Errorf("%q, want %q", got, want)
		}
	}
}

// P7.9: readings from texts.
func TestParseReading(t *testing.T) {
	for text, want := range map[string]api.Climate{
		"5 450": reading(5, 450), "0 0": {}, "100000 1000": reading(100000, 1000), "7 0": reading(7, 0),
	} {
		if got, e := upkeep.ParseReading(text); got != want || e != api.OK {
			t.Errorf("%q: %v, error %d", text, got, e)
		}
	}
	for want, texts := range map[api.Errno][]string{
		api.ErrSyntax: {
			"", " ", "5", "5 ", " 450", "5  450", " 5 450", "5 450 ", "5 450 1", "5\t450", "5 450\n", "5,450",
			"05 450", "5 0450", "+5 450", "5 +450", "-0 450", "5 -0", "5 x", "x 450", "5 4.5", "- 450", "5 --1",
			"10000000 450", "5 10000000", "-10000000 450", "5 99999999999999999999", "5 ٤", "\xff \xfe",
		},
		api.ErrRange: {
			"100001 450", "9999999 450", "-1 450", "5 1001", "5 -1", "5 9999999", "-9999999 -9999999",
		},
	} {
		for _, text := range texts {
			if got, e := upkeep.ParseReading(text); got != (api.Climate{}) || e != want {
				t.Errorf("%q: %v, error %d, want %d", text, got, e, want)
			}
		}
	}
	r := dice()
	for range 300 {
		c := reading(from(r, 0, 100000), from(r, 0, 1000))
		if got, e := upkeep.ParseReading(upkeep.FormatReading(c)); got != c || e != api.OK {
			t.Fatal(c, got, e)
		}
	}
}

const threeText = "36 43 3 2 -745 -744\n36 40 5 4 0 0\n40 43 6 5 -1000000000 1000000000\n"

func threeCounts() []api.BeatCount {
	return []api.BeatCount{count(three()[0], -745, -744), count(three()[1], 0, 0), count(three()[2], -1000000000, 1000000000)}
}

// P7.9: the texts of counts.
func TestPrint(t *testing.T) {
	for want, l := range map[string][]api.BeatCount{"": nil, threeText: threeCounts(), "0 87 16 15 1 2\n": {count(beat(0, 87, 16, 15), 1, 2)}} {
		if got, e := upkeep.Print(l); got != want || e != api.OK {
			t.Errorf("%q, error %d, want %q", got, e, want)
		}
	}
	for want, l := range badTests() {
		if got, e := upkeep.Print(countsOf(l)); got != "" || e != want {
			t.Errorf("%q, error %d, want %d", got, e, want)
		}
	}
}

// P7.9: texts, the number of the first wrong line, and the errors in order.
func TestParse(t *testing.T) {
	const fine = "36 43 3 2 0 0\n"
	many, err := upkeep.Print(countsOf(chain(60)))
	wantErr(t, "Print", err, api.OK)
	for _, c := range []struct {
		what, text string
		line       int
		want       api.Errno
	}{
		{"nothing", "", 0, api.OK},
		{"the example", threeText, 0, api.OK},
		{"60 counts", many, 0, api.OK},
		{"61 counts", many + "60 61 1 1 0 0\n", 0, api.ErrLarge},
		{"61 counts and a wrong line", many + "60 61 1 1 0 0\nx\n", 62, api.ErrSyntax},
		{"an empty line", "\n", 1, api.ErrSyntax},
		{"an empty line behind", threeText + "\n", 4, api.ErrSyntax},
		{"an empty line between", fine + "\n" + threeText, 2, api.ErrSyntax},
		{"5 numbers", fine + "36 40 5 4 0\n", 2, api.ErrSyntax},
		{"7 numbers", "36 40 5 4 0 0 0\n", 1, api.ErrSyntax},
		{"a word", "36 40 5 4 0 x\n", 1, api.ErrSyntax},
		{"a word in front", "count 36 40 5 4 0 0\n", 1, api.ErrSyntax},
		{"two blanks", "36  40 5 4 0 0\n", 1, api.ErrSyntax},
		{"a blank ahead", " 36 40 5 4 0 0\n", 1, api.ErrSyntax},
		{"a blank behind", "36 40 5 4 0 0 \n", 1, api.ErrSyntax},
		{"an empty number", "36 40 5 4 0 \n", 1, api.ErrSyntax},
		{"a tab", "36 40 5 4 0\t0\n", 1, api.ErrSyntax},
		{"a return", "36 40 5 4 0 0\r\n", 1, api.ErrSyntax},
		{"a plus sign", "36 40 5 4 +0 0\n", 1, api.ErrSyntax},
		{"-0", "36 40 5 4 -0 0\n", 1, api.ErrSyntax},
		{"a leading zero", "36 040 5 4 0 0\n", 1, api.ErrSyntax},
		{"10 digits", "36 40 5 4 0 9999999999\n", 0, api.ErrRange},
		{"10 digits below 0", "36 40 5 4 -9999999999 0\n", 0, api.ErrRange},
		{"11 digits", "36 40 5 4 0 10000000000\n", 1, api.ErrSyntax},
		{"11 digits below 0", "36 40 5 4 -10000000000 0\n", 1, api.ErrSyntax},
		{"20 digits", "99999999999999999999 40 5 4 0 0\n", 1, api.ErrSyntax},
		{"a last line without a line feed", threeText + strings.TrimSuffix(fine, "\n"), 4, api.ErrSyntax},
		{"one line without a line feed", strings.TrimSuffix(fine, "\n"), 1, api.ErrSyntax},
		{"a half line", "36", 1, api.ErrSyntax},
		{"no note", fine + "-1 40 5 4 0 0\n", 0, api.ErrRange},
		{"the wrong order", "36 40 5 4 1 0\n", 0, api.ErrOrder},
		{"a seventh partial", "36 40 7 4 0 0\n", 0, api.ErrKind},
		{"a test twice", fine + "36 43 3 2 1 1\n", 0, api.ErrExists},
		{"a wrong line behind a wrong count", "36 40 7 4 0 0\nx\n", 2, api.ErrSyntax},
		{"60000 bytes", strings.Repeat("x", 60000), 1, api.ErrSyntax},
		{"60001 bytes", strings.Repeat("x", 60001), 0, api.ErrLarge},
		{"60000 bytes of lines", strings.Repeat("\n", 60000), 1, api.ErrSyntax},
	} {
		got, line, e := upkeep.Parse(c.text)
		if line != c.line || e != c.want || e != api.OK && len(got) > 0 {
			t.Errorf("%s: %v, line %d, error %d, want line %d, error %d", c.what, got, line, e, c.line, c.want)
		}
	}
	if got, _, _ := upkeep.Parse(threeText); !slices.Equal(got, threeCounts()) {
		t.Error("the example:", got)
	}
}

// P7.13: Parse undoes Print.
func TestParseUndoesPrint(t *testing.T) {
	r := dice()
	for range 300 {
		var l []api.BeatCount
		for _, b := range randomTests(r, from(r, 12, 88), from(r, 0, 30)) {
			low := from(r, -1000000000, 1000000000)
			l = append(l, count(b, low, from(r, low, 1000000000)))
		}
		text, e := upkeep.Print(l)
		wantErr(t, "Print", e, api.OK)
		if again, line, e := upkeep.Parse(text); !slices.Equal(again, l) || line != 0 || e != api.OK {
			t.Fatal(l, text, again, line, e)
		}
	}
}

package regulation_test

import (
	"math"
	"reflect"
	"strings"
	"testing"

	"agraffe/api"
	"agraffe/regulation"
)

// P5.10: the text of a step.
func TestSteps(t *testing.T) {
	for text, s := range map[string]api.Step{
		"3 -2":             step(3, -2),
		"0 0":              step(0, 0),
		"-1 7":             step(-1, 7),
		"9999999 -9999999": step(9999999, -9999999),
	} {
		if got := regulation.FormatStep(s); got != text {
			t.Errorf("%v: %q, want %q", s, got, text)
		}
		if got, e := regulation.ParseStep(text); got != s || e != api.OK {
			t.Errorf("%q: %v, error %d, want %v", text, got, e, s)
		}
	}
	for text, s := range map[string]api.Step{
		"12345678 0": step(12345678, 0),
		"-9223372036854775808 9223372036854775807": step(math.MinInt, math.MaxInt),
	} {
		if got := regulation.FormatStep(s); got != text {
			t.Errorf("%v: %q, want %q", s, got, text)
		}
	}
	for _, text := range []string{
		"", " ", "3", "3 ", " 3", "3  -2", "3 -2 ", " 3 -2", "3 -2\n", "3 -2 1", "3\t-2", "3\n-2", "3,-2",
		"3 -0", "-0 3", "03 2", "3 02", "3 -02", "+3 2", "3 +2", "3 - 2", "3 --2", "a 2", "3 b", "3 2.0", "3 0x2", "3 1_0", "3 ٢",
		"10000000 1", "1 10000000", "-10000000 1", "1 -10000000", "99999999999999999999 1",
	} {
		if s, e := regulation.ParseStep(text); s != (api.Step{}) || e != api.ErrSyntax {
			t.Errorf("%q: %v, error %d", text, s, e)
		}
	}
}

const grandText = "measure let-off 30 10 20\n" +
	"measure drop 5 0 8\n" +
	"measure catch 0 -5 5\n" +
	"adjust button -10 10 2 on let-off -4 on drop 1\n" +
	"adjust screw -3 3 1 on drop -2 after button\n" +
	"adjust check 0 4 4 on catch 5\n"

// P5.10: the text of a bench.
func TestPrint(t *testing.T) {
	for _, c := range []struct {
		b    api.Bench
		want string
	}{
		{grand(), grandText},
		{api.Bench{}, ""},
		{api.Bench{Measures: []api.Measure{{Name: "a", Value: -100000, Low: -7, High: 100000}}}, "measure a -100000 -7 100000\n"},
		{api.Bench{Adjustments: []api.Adjustment{
			{Name: "on", Pass: 1, After: []string{"measure", "after"}},
			{Name: "after", Least: -1000, Most: 1000, Pass: 1000},
			{Name: "measure", Pass: 2},
		}}, "adjust on 0 0 1 after measure after after\nadjust after -1000 1000 1000\nadjust measure 0 0 2\n"},
	} {
		if text, e := regulation.Print(c.b); text != c.want || e != api.OK {
			t.Errorf("Print: %q, error %d, want %q", text, e, c.want)
		}
	}
}

type textCase struct {
	what, text string
	line       int
	want       api.Errno
}

func checkTexts(t *testing.T, l []textCase) {
	t.Helper()
	for _, c := range l {
		b, line, e := regulation.Parse(c.text)
		if line != c.line || e != c.want {
			t.Errorf("%s: line %d, error %d, want %d, error %d", c.what, line, e, c.line, c.want)
		}
		if e != api.OK && !isNothing(b) {
			t.Errorf("%s: %v beside an error", c.what, b)
		}
	}
}

const (
	measureLine = "measure m 1 0 2\n"
	adjustLine  = "adjust a 0 1 1 on m 1\n"
)

// P5.10: the order of lines, and line feeds.
func TestLinesOfTexts(t *testing.T) {
	checkTexts(t, []textCase{
		{"the example", grandText, 0, api.OK},
		{"nothing", "", 0, api.OK},
		{"a measure alone", measureLine, 0, api.OK},
		{"an adjustment alone", "adjust a 0 1 1\n", 0, api.OK},
		{"both", measureLine + adjustLine, 0, api.OK},
		{"a measure behind an adjustment", adjustLine + measureLine, 2, api.ErrSyntax},
		{"a measure between adjustments", measureLine + adjustLine + "measure n 1 0 2\n", 3, api.ErrSyntax},
		{"an empty line", "\n", 1, api.ErrSyntax},
		{"an empty line behind", measureLine + "\n", 2, api.ErrSyntax},
		{"an empty line ahead", "\n" + measureLine, 1, api.ErrSyntax},
		{"no line feed", "measure m 1 0 2", 1, api.ErrSyntax},
		{"no line feed behind an adjustment", measureLine + "adjust a 0 1 1", 2, api.ErrSyntax},
		{"a return", "measure m 1 0 2\r\n", 1, api.ErrSyntax},
		{"another word", measureLine + "adjusts a 0 1 1\n", 2, api.ErrSyntax},
		{"a capital letter", "Measure m 1 0 2\n", 1, api.ErrSyntax},
		{"the first of two wrong lines", measureLine + "x\ny\n", 2, api.ErrSyntax},
		{"a wrong line behind a wrong measure", "measure 1 1 0 2\n" + "x\n", 2, api.ErrSyntax},
		{"60000 bytes", strings.Repeat("x", 60000), 1, api.ErrSyntax},
		{"60000 bytes in lines", strings.Repeat("adjust a 0 1 1\n", 4000), 0, api.ErrLarge},
		{"60001 bytes", strings.Repeat("x", 60001), 0, api.ErrLarge},
		{"60001 bytes, of which the first line is wrong", "\n" + strings.Repeat("x", 60000), 0, api.ErrLarge},
	})
}

// P5.10: words of lines.
func TestWordsOfTexts(t *testing.T) {
	line := func(what, text string, want api.Errno) textCase {
		c := textCase{what, measureLine + text + "\n", 2, want}
		if want != api.ErrSyntax {
			c.line = 0
		}
		return c
	}
	checkTexts(t, []textCase{
		line("a second measure", "measure n 1 0 2", api.OK),
		line("a measure twice", "measure m 1 0 2", api.ErrExists),
		line("a measure without High", "measure n 1 0", api.ErrSyntax),
		line("a measure and more", "measure n 1 0 2 3", api.ErrSyntax),
		line("a measure and a blank", "measure n 1 0 2 ", api.ErrSyntax),
		line("a measure alone", "measure", api.ErrSyntax),
		line("a blank ahead", " measure n 1 0 2", api.ErrSyntax),
		line("two blanks", "measure n  1 0 2", api.ErrSyntax),
		line("an empty name of a measure", "measure  1 0 2", api.ErrName),
		line("a name that is none", "measure \xff 1 0 2", api.ErrName),
		line("a word as Value", "measure n x 0 2", api.ErrSyntax),
		line("a word as Low", "measure n 1 x 2", api.ErrSyntax),
		line("a word as High", "measure n 1 0 x", api.ErrSyntax),
		line("a leading zero", "measure n 01 0 2", api.ErrSyntax),
		line("a plus sign", "measure n +1 0 2", api.ErrSyntax),
		line("-0", "measure n 1 -0 2", api.ErrSyntax),
		line("7 digits", "measure n 1 0 9999999", api.ErrRange),
		line("7 digits below 0", "measure n -9999999 0 2", api.ErrRange),
		line("8 digits", "measure n 1 0 10000000", api.ErrSyntax),
		line("8 digits below 0", "measure n -10000000 0 2", api.ErrSyntax),
		line("High below Low", "measure n 1 3 2", api.ErrOrder),
		line("no effects", "adjust a 0 1 1", api.OK),
		line("an adjustment without Pass", "adjust a 0 1", api.ErrSyntax),
		line("an adjustment alone", "adjust", api.ErrSyntax),
		line("an adjustment and a blank", "adjust a 0 1 1 ", api.ErrSyntax),
		line("an adjustment and a word", "adjust a 0 1 1 1", api.ErrSyntax),
		line("an empty name of an adjustment", "adjust  0 1 1", api.ErrName),
		line("a word as Least", "adjust a x 1 1", api.ErrSyntax),
		line("a word as Most", "adjust a 0 x 1", api.ErrSyntax),
		line("a word as Pass", "adjust a 0 1 x", api.ErrSyntax),
		line("8 digits as Pass", "adjust a 0 1 10000000", api.ErrSyntax),
		line("7 digits as Pass", "adjust a 0 1 9999999", api.ErrRange),
		line("an effect", "adjust a 0 1 1 on m -3", api.OK),
		line("an effect without By", "adjust a 0 1 1 on m", api.ErrSyntax),
		line("on alone", "adjust a 0 1 1 on", api.ErrSyntax),
		line("an effect and a blank", "adjust a 0 1 1 on m 1 ", api.ErrSyntax),
		line("an effect and a word", "adjust a 0 1 1 on m 1 2", api.ErrSyntax),
		line("a word as By", "adjust a 0 1 1 on m x", api.ErrSyntax),
		line("a leading zero in By", "adjust a 0 1 1 on m 01", api.ErrSyntax),
		line("8 digits as By", "adjust a 0 1 1 on m 10000000", api.ErrSyntax),
		line("7 digits as By", "adjust a 0 1 1 on m 9999999", api.ErrRange),
		line("0 as By", "adjust a 0 1 1 on m 0", api.ErrZero),
		line("a second effect with a word as By", "adjust a 0 1 1 on m 1 on m x", api.ErrSyntax),
		line("a measure with two effects", "adjust a 0 1 1 on m 1 on m 1", api.ErrExists),
		line("an empty measure", "adjust a 0 1 1 on  1", api.ErrMissing),
		line("another word than on", "adjust a 0 1 1 off m 1", api.ErrSyntax),
		line("itself", "adjust a 0 1 1 after a", api.ErrCycle),
		line("no such adjustment", "adjust a 0 1 1 after b", api.ErrMissing),
		line("after an empty name", "adjust a 0 1 1 after ", api.ErrMissing),
		line("after alone", "adjust a 0 1 1 after", api.ErrSyntax),
		line("after a name and a word", "adjust a 0 1 1 after a b", api.ErrSyntax),
		line("after a name and a blank", "adjust a 0 1 1 after a ", api.ErrSyntax),
		line("After ahead of an effect", "adjust a 0 1 1 after b on m 1", api.ErrSyntax),
		line("After between effects", "adjust a 0 1 1 on m 1 after b on m 1", api.ErrSyntax),
		line("the words as names", "adjust on 0 1 1\nadjust after 0 1 1 on m 1 after on", api.OK),
		line("on as a measure", "adjust a 0 1 1 on on 1", api.ErrMissing),
		line("after as an adjustment", "adjust a 0 1 1 after after", api.ErrMissing),
		line("very many effects", "adjust a 0 1 1"+strings.Repeat(" on m 1", 8000), api.ErrLarge),
		line("very many names", "adjust a 0 1 1"+strings.Repeat(" after m", 7000), api.ErrLarge),
	})
}

// P5.10: what a text says.
func TestParse(t *testing.T) {
	b, line, e := regulation.Parse(grandText)
	if !reflect.DeepEqual(b, grand()) || line != 0 || e != api.OK {
		t.Error("the example:", b, line, e)
	}
	want := api.Bench{
		Measures:    []api.Measure{{Name: "a", Value: 1, Low: -2, High: 3}},
		Adjustments: []api.Adjustment{{Name: "b", Effects: []api.Effect{on("a", -7)}, Least: -4, Most: 5, Pass: 6, After: []string{"c", "d"}}, {Name: "c", Pass: 1}, {Name: "d", Pass: 1}},
	}
	b, line, e = regulation.Parse("measure a 1 -2 3\nadjust b -4 5 6 on a -7 after c after d\nadjust c 0 0 1\nadjust d 0 0 1\n")
	if !reflect.DeepEqual(b, want) || line != 0 || e != api.OK {
		t.Error(b, line, e)
	}
}

// P5.10: Parse undoes Print.
func TestParseUndoesPrint(t *testing.T) {
	r := dice()
	for range 500 {
		b := randomBench(r, room{measures: 12, adjustments: 12, value: 100000, by: 1000, steps: 1000, pass: 1000})
		text, e := regulation.Print(b)
		wantErr(t, "Print", e, api.OK)
		again, line, e := regulation.Parse(text)
		if e != api.OK || line != 0 || !reflect.DeepEqual(again, trimmed(b)) {
			t.Fatal(b, text, again, line, e)
		}
	}
}

// trimmed is a bench whose empty lists are nil.
func trimmed(b api.Bench) api.Bench {
	if len(b.Measures) == 0 {
		b.Measures = nil
	}
	if len(b.Adjustments) == 0 {
		b.Adjustments = nil
	}
	return b
}

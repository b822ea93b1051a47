package action_test

import (
	"reflect"
	"strings"
	"testing"

	"agraffe/action"
	"agraffe/api"
)

const uprightText = "action 1000\n" +
	"part wippen - 100 20 0 0 1000 500\n" +
	"part hammer wippen 30 10 0 0 450 4500 500 4300\n" +
	"event lift wippen rise 1\n" +
	"event let-off hammer rise 4500\n" +
	"event drop hammer rise 4600\n"

// P4.9: the text of an action.
func TestPrint(t *testing.T) {
	for _, c := range []struct {
		a    api.Action
		want string
	}{
		{upright(), uprightText},
		{api.Action{Dip: 1}, "action 1\n"},
		{api.Action{
			Dip:    2000,
			Parts:  []api.ActionPart{{Name: "a", Curve: curve(-10000, 10000)}},
			Events: []api.ActionEvent{{Name: "a", Part: "a", Level: -3, Falling: true}, {Name: "b", Part: "a"}},
			Leads:  []api.Lead{{Weight: 5000, Place: -1000}, {Weight: 1, Place: 0}},
		}, "action 2000\npart a - 0 0 -10000 10000\nevent a a fall -3\nevent b a rise 0\nlead 5000 -1000\nlead 1 0\n"},
	} {
		if text, e := action.Print(c.a); text != c.want || e != api.OK {
			t.Errorf("Print: %q, error %d, want %q", text, e, c.want)
		}
	}
}

type textCase struct {
	what, text string
	line       int
	want       api.Errno
}

func checkTexts(t *testing.T, l []textCase) {
	t.Helper()
	for _, c := range l {
		a, line, e := action.Parse(c.text)
		if line != c.line || e != c.want {
			t.Errorf("%s: line %d, error %d, want %d, error %d", c.what, line, e, c.line, c.want)
		}
		if e != api.OK && !reflect.DeepEqual(a, api.Action{}) {
			t.Errorf("%s: %v beside an error", c.what, a)
		}
	}
}

const (
	dipLine   = "action 5\n"
	partLine  = "part a - 1 2 3 4\n"
	eventLine = "event b a rise 5\n"
	leadLine  = "lead 6 7\n"
)

// P4.9: the order of lines, and line feeds.
func TestLinesOfTexts(t *testing.T) {
	checkTexts(t, []textCase{
		{"the example", uprightText, 0, api.OK},
		{"all lines", dipLine + partLine + eventLine + leadLine, 0, api.OK},
		{"a dip alone", dipLine, 0, api.OK},
		{"leads alone", dipLine + leadLine + leadLine, 0, api.OK},
		{"nothing", "", 1, api.ErrSyntax},
		{"an empty line", "\n", 1, api.ErrSyntax},
		{"an empty line behind", dipLine + "\n", 2, api.ErrSyntax},
		{"an empty line ahead", "\n" + dipLine, 1, api.ErrSyntax},
		{"no line feed", "action 5", 1, api.ErrSyntax},
		{"no line feed behind a part", dipLine + "part a - 1 2 3 4", 2, api.ErrSyntax},
		{"a return", "action 5\r\n", 1, api.ErrSyntax},
		{"no dip", partLine, 1, api.ErrSyntax},
		{"a part ahead of the dip", partLine + dipLine, 1, api.ErrSyntax},
		{"two dips", dipLine + dipLine, 2, api.ErrSyntax},
		{"a dip at the end", dipLine + partLine + eventLine + leadLine + dipLine, 5, api.ErrSyntax},
		{"a part behind an event", dipLine + partLine + eventLine + "part c - 1 2 3 4\n", 4, api.ErrSyntax},
		{"a part behind a lead", dipLine + leadLine + partLine, 3, api.ErrSyntax},
		{"an event behind a lead", dipLine + partLine + leadLine + eventLine, 4, api.ErrSyntax},
		{"another word", dipLine + "hole 6 7\n", 2, api.ErrSyntax},
		{"the first of two wrong lines", dipLine + "x\ny\n", 2, api.ErrSyntax},
		{"a wrong line behind a wrong dip", "action 0\n" + "x\n", 2, api.ErrSyntax},
		{"60000 bytes", strings.Repeat("x", 60000), 1, api.ErrSyntax},
		{"60000 bytes in lines", strings.Repeat(dipLine, 60000/len(dipLine)), 2, api.ErrSyntax},
		{"60001 bytes", strings.Repeat("x", 60001), 0, api.ErrLarge},
		{"very many leads", dipLine + strings.Repeat(leadLine, 6000), 0, api.ErrLarge},
	})
}

// P4.9: words of lines.
func TestWordsOfTexts(t *testing.T) {
	line := func(what, text string, want api.Errno) textCase {
		c := textCase{what, dipLine + text + "\n", 2, want}
		if want != api.ErrSyntax {
			c.line = 0
		}
		return c
	}
	inPart := func(what, text string, want api.Errno) textCase {
		c := line(what, partLine+text, want)
		if want == api.ErrSyntax {
			c.line = 3
		}
		return c
	}
	checkTexts(t, []textCase{
		{"a dip and more", "action 5 6\n", 1, api.ErrSyntax},
		{"no number as the dip", "action\n", 1, api.ErrSyntax},
		{"an empty number as the dip", "action \n", 1, api.ErrSyntax},
		{"two blanks", "action  5\n", 1, api.ErrSyntax},
		{"a blank ahead", " action 5\n", 1, api.ErrSyntax},
		{"a capital letter", "Action 5\n", 1, api.ErrSyntax},
		{"a leading zero", "action 05\n", 1, api.ErrSyntax},
		{"a plus sign", "action +5\n", 1, api.ErrSyntax},
		{"8 digits", "action 10000000\n", 1, api.ErrSyntax},
		{"8 digits below 0", "action -10000000\n", 1, api.ErrSyntax},
		{"7 digits", "action 9999999\n", 0, api.ErrRange},
		{"7 digits below 0", "action -9999999\n", 0, api.ErrRange},
		line("no corners", "part a - 1 2", api.ErrShape),
		line("half a corner", "part a - 1 2 3", api.ErrSyntax),
		line("a corner and a half", "part a - 1 2 3 4 5", api.ErrSyntax),
		line("a corner and an empty word", "part a - 1 2 3 4 ", api.ErrSyntax),
		line("corners that do not ascend", "part a - 1 2 3 4 3 4", api.ErrOrder),
		line("no friction", "part a - 1", api.ErrSyntax),
		line("nothing behind part", "part", api.ErrSyntax),
		line("a word as a weight", "part a - x 2 3 4", api.ErrSyntax),
		line("a word as a friction", "part a - 1 x 3 4", api.ErrSyntax),
		line("a word as X", "part a - 1 2 x 4", api.ErrSyntax),
		line("a word as Y", "part a - 1 2 3 x", api.ErrSyntax),
		line("a fraction", "part a - 1 2 3/2 4", api.ErrSyntax),
		line("-0", "part a - 1 2 -0 4", api.ErrSyntax),
		line("8 digits in a corner", "part a - 1 2 3 10000000", api.ErrSyntax),
		line("7 digits in a corner", "part a - 1 2 3 9999999", api.ErrRange),
		line("an empty driver", "part a  1 2 3 4", api.ErrSyntax),
		line("an unknown driver", "part a b 1 2 3 4", api.ErrMissing),
		line("two strokes as a driver", "part a -- 1 2 3 4", api.ErrMissing),
		line("an empty name", "part  - 1 2 3 4", api.ErrName),
		line("a name that is none", "part \xff\t - 1 2 3 4", api.ErrName),
		line("13 corners", "part a - 1 2"+strings.Repeat(" 3 4", 13), api.ErrShape),
		inPart("a part twice", "part a a 1 2 3 4", api.ErrExists),
		inPart("a part that is driven", "part b a 1 2 3 4", api.OK),
		inPart("an event that falls", "event b a fall -5", api.OK),
		inPart("an empty name of an event", "event  a fall -5", api.ErrName),
		inPart("an empty part of an event", "event b  fall -5", api.ErrMissing),
		inPart("an unknown part of an event", "event b - fall -5", api.ErrMissing),
		inPart("another way", "event b a falls -5", api.ErrSyntax),
		inPart("an empty way", "event b a  -5", api.ErrSyntax),
		inPart("a word as a level", "event b a fall x", api.ErrSyntax),
		inPart("7 digits as a level", "event b a fall 9999999", api.ErrRange),
		inPart("8 digits as a level", "event b a fall 10000000", api.ErrSyntax),
		inPart("no level", "event b a fall", api.ErrSyntax),
		inPart("two levels", "event b a fall 5 6", api.ErrSyntax),
		inPart("an event without words", "event", api.ErrSyntax),
		line("a lead without a place", "lead 6", api.ErrSyntax),
		line("a lead with two places", "lead 6 7 8", api.ErrSyntax),
		line("a word as a lead", "lead x 7", api.ErrSyntax),
		line("a word as a place", "lead 6 x", api.ErrSyntax),
		line("a lead without weight", "lead 0 7", api.ErrRange),
		line("8 digits as a lead", "lead 10000000 7", api.ErrSyntax),
		line("7 digits as a place", "lead 6 -9999999", api.ErrRange),
	})
}

// P4.9: what a text says, and all of it.
func TestParse(t *testing.T) {
	a, line, e := action.Parse(uprightText)
	if !reflect.DeepEqual(a, upright()) || line != 0 || e != api.OK {
		t.Error("the example:", a, line, e)
	}
	want := api.Action{
		Dip:    5,
		Parts:  []api.ActionPart{{Name: "a", Curve: curve(3, 4), Weight: 1, Friction: 2}, {Name: "b", Driver: "a", Curve: curve(-5, 6, 7, -8)}},
		Events: []api.ActionEvent{{Name: "c", Part: "b", Level: -9, Falling: true}},
		Leads:  []api.Lead{{Weight: 10, Place: -11}, {Weight: 12, Place: 13}},
	}
	a, line, e = action.Parse("action 5\npart a - 1 2 3 4\npart b a 0 0 -5 6 7 -8\nevent c b fall -9\nlead 10 -11\nlead 12 13\n")
	if !reflect.DeepEqual(a, want) || line != 0 || e != api.OK {
		t.Error(a, line, e)
	}
}

// P4.9: Parse undoes Print.
func TestParseUndoesPrint(t *testing.T) {
	r := dice()
	for range 500 {
		a := randomAction(r, 10000)
		text, e := action.Print(a)
		wantErr(t, "Print", e, api.OK)
		again, line, e := action.Parse(text)
		if e != api.OK || line != 0 || !reflect.DeepEqual(again, a) {
			t.Fatal(a, text, again, line, e)
		}
	}
}

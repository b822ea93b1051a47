package scale_test

import (
	"reflect"
	"slices"
	"strings"
	"testing"

	"agraffe/api"
	"agraffe/scale"
)

const exampleText = "fork 440000\n" +
	"wire steel 24661 180000 97000000\n" +
	"unison 0 0 0 1 3 40000 1000 0 steel -\n" +
	"unison 1 0 0 1 3 20000 1000 0 steel -\n"

// P2.7: the text of the examples, and of a wound unison with a pitch that is not in normal form.
func TestPrint(t *testing.T) {
	if text, e := scale.Print(two()); text != exampleText || e != api.OK {
		t.Errorf("Print: %q, error %d", text, e)
	}
	s := api.Stringing{Fork: 440000, Wires: steel(), Unisons: []api.Unison{{Pitch: api.Pitch{Two: -6, Three: 2, Five: -4, Den: 4}, Count: 2, Strand: wound()}}}
	want := "fork 440000\nwire steel 24661 180000 97000000\nwire brass 27000 60000 50000000\nunison -6 2 -4 4 2 120000 1200 3000 steel brass\n"
	if text, e := scale.Print(s); text != want || e != api.OK {
		t.Errorf("Print: %q, error %d", text, e)
	}
	if text, e := scale.Print(api.Stringing{Fork: 1000}); text != "fork 1000\n" || e != api.OK {
		t.Errorf("Print of a fork: %q, error %d", text, e)
	}
	if text, e := scale.Print(api.Stringing{}); text != "" || e != api.ErrRange {
		t.Errorf("Print of nothing: %q, error %d", text, e)
	}
}

// P2.7: texts, the number of the first wrong line, and the errors in order.
func TestParse(t *testing.T) {
	text := func(lines ...string) string { return strings.Join(lines, "\n") + "\n" }
	const fork, wire, unison = "fork 440000", "wire steel 24661 180000 97000000", "unison 0 0 0 1 3 40000 1000 0 steel -"
	for _, c := range []struct {
		what string
		text string
		line int
		want api.Errno
	}{
		{"the example", exampleText, 0, api.OK},
		{"a fork", text(fork), 0, api.OK},
		{"a fork and a wire", text(fork, wire), 0, api.OK},
		{"an empty wrap", text(fork, wire, "unison 0 0 0 1 3 40000 1000 0 steel "), 0, api.OK},
		{"nothing", "", 1, api.ErrSyntax},
		{"an empty line", "\n", 1, api.ErrSyntax},
		{"no fork", text(wire), 1, api.ErrSyntax},
		{"a unison without a fork", text(unison), 1, api.ErrSyntax},
		{"a fork without a line feed", fork, 1, api.ErrSyntax},
		{"a fork without a number", text("fork"), 1, api.ErrSyntax},
		{"a fork with two numbers", text("fork 440000 1"), 1, api.ErrSyntax},
		{"a fork with two blanks", text("fork  440000"), 1, api.ErrSyntax},
		{"a blank behind the fork", text("fork 440000 "), 1, api.ErrSyntax},
		{"a blank ahead of the fork", text(" fork 440000"), 1, api.ErrSyntax},
		{"another word", text("spoon 440000"), 1, api.ErrSyntax},
		{"a leading zero", text("fork 0440000"), 1, api.ErrSyntax},
		{"a plus sign", text("fork +440000"), 1, api.ErrSyntax},
		{"a return", "fork 440000\r\n", 1, api.ErrSyntax},
		{"10 digits", text("fork 1000000000"), 1, api.ErrSyntax},
		{"9 digits", text("fork 999999999"), 0, api.ErrRange},
		{"9 digits below 0", text("fork -999999999"), 0, api.ErrRange},
		{"two forks", text(fork, fork), 2, api.ErrSyntax},
		{"an empty line behind the fork", text(fork, ""), 2, api.ErrSyntax},
		{"a wire too short", text(fork, "wire steel 24661 180000"), 2, api.ErrSyntax},
		{"a wire too long", text(fork, wire+" 1"), 2, api.ErrSyntax},
		{"a wire without a number", text(fork, "wire steel 24661 180000 -"), 2, api.ErrSyntax},
		{"10 digits of a wire", text(fork, "wire steel 24661 180000 1000000000"), 2, api.ErrSyntax},
		{"a wire behind a unison", text(fork, wire, unison, "wire iron 1 1 1"), 4, api.ErrSyntax},
		{"a fork behind a unison", text(fork, wire, unison, fork), 4, api.ErrSyntax},
		{"a unison too short", text(fork, wire, "unison 0 0 0 1 3 40000 1000 0 steel"), 3, api.ErrSyntax},
		{"a unison too long", text(fork, wire, unison+" -"), 3, api.ErrSyntax},
		{"a unison without a number", text(fork, wire, "unison 0 0 0 1 3 40000 1000 x steel -"), 3, api.ErrSyntax},
		{"-0", text(fork, wire, "unison -0 0 0 1 3 40000 1000 0 steel -"), 3, api.ErrSyntax},
		{"a unison without a line feed", fork + "\n" + wire + "\n" + unison, 3, api.ErrSyntax},
		{"the first of two wrong lines", text(fork, "wire", "unison"), 2, api.ErrSyntax},
		{"a wrong line behind a wrong number", text("fork 1", wire, "unison"), 3, api.ErrSyntax},
		{"an empty name", text(fork, "wire  24661 180000 97000000"), 0, api.ErrName},
		{"a name that is none", text(fork, "wire -\t 24661 180000"), 2, api.ErrSyntax},
		{"a name of other bytes", text(fork, "wire \t\xff 24661 180000 97000000"), 0, api.ErrName},
		{"no such wire", text(fork, unison), 0, api.ErrMissing},
		{"an empty wire", text(fork, wire, "unison 0 0 0 1 3 40000 1000 0  -"), 0, api.ErrMissing},
		{"a wire of a wrap", text(fork, wire, "unison 0 0 0 1 3 40000 1000 0 - -"), 0, api.ErrMissing},
		{"a wrap without Over", text(fork, wire, "unison 0 0 0 1 3 40000 1000 0 steel steel"), 0, api.ErrForm},
		{"an order of the second unison", text(fork, wire, unison, unison), 0, api.ErrOrder},
		{"many unisons", text(fork, wire) + strings.Repeat(unison+"\n", 91), 0, api.ErrLarge},
		{"60000 bytes", strings.Repeat("x", 60000), 1, api.ErrSyntax},
		{"60001 bytes", strings.Repeat("x", 60001), 0, api.ErrLarge},
	} {
		s, line, e := scale.Parse(c.text)
		if line != c.line || e != c.want {
			t.Errorf("%s: line %d, error %d, want %d, error %d", c.what, line, e, c.line, c.want)
		}
		if e != api.OK && !reflect.DeepEqual(s, api.Stringing{}) {
			t.Errorf("%s: %v beside an error", c.what, s)
		}
	}
	s, _, _ := scale.Parse(exampleText)
	if s.Fork != 440000 || !slices.Equal(s.Wires, two().Wires) || !slices.Equal(s.Unisons, two().Unisons) {
		t.Errorf("Parse of the example: %v", s)
	}
}

// P2.9: Parse undoes Print.
func TestParseUndoesPrint(t *testing.T) {
	s := piano(53)
	for i := range s.Unisons {
		if i%3 == 0 {
			s.Unisons[i].Strand.Over, s.Unisons[i].Strand.Wrap = 1100+i, "brass"
		}
		s.Unisons[i].Count = i%4 + 1
	}
	s.Unisons[0].Pitch = api.Pitch{Two: -9, Three: 6, Five: -3, Den: 12}
	text, e := scale.Print(s)
	wantErr(t, "Print", e, api.OK)
	again, line, e := scale.Parse(text)
	if e != api.OK || line != 0 || again.Fork != s.Fork || !slices.Equal(again.Wires, s.Wires) || !slices.Equal(again.Unisons, s.Unisons) {
		t.Errorf("Parse: %v, line %d, error %d", again, line, e)
	}
	if back, _ := scale.Print(again); back != text {
		t.Errorf("Print again: %q", back)
	}
}

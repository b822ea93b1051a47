package plate_test

import (
	"slices"
	"strings"
	"testing"

	"agraffe/api"
	"agraffe/plate"
)

const coupleText = "force 100 0 0 0 0 -10\nforce 0 0 0 0 0 10\n"

// P3.7: the text of forces.
func TestPrint(t *testing.T) {
	for _, c := range []struct {
		l    []api.Pulled
		want string
	}{
		{nil, ""},
		{couple(), coupleText},
		{[]api.Pulled{{At: at(-1000000, 2, -3), Force: at(1000000000, -1000000000, 6)}}, "force -1000000 2 -3 1000000000 -1000000000 6\n"},
	} {
		if text, e := plate.Print(c.l); text != c.want || e != api.OK {
			t.Errorf("Print: %q, error %d, want %q", text, e, c.want)
		}
	}
}

// P3.7: texts, the number of the first wrong line, and the errors in order.
func TestParse(t *testing.T) {
	const fine = "force 1 2 3 4 5 6\n"
	for _, c := range []struct {
		what string
		text string
		line int
		want api.Errno
	}{
		{"nothing", "", 0, api.OK},
		{"the example", coupleText, 0, api.OK},
		{"an empty line", "\n", 1, api.ErrSyntax},
		{"an empty line behind", coupleText + "\n", 3, api.ErrSyntax},
		{"an empty line between", fine + "\n" + fine, 2, api.ErrSyntax},
		{"too few numbers", coupleText + "force 1 2 3 4 5\n", 3, api.ErrSyntax},
		{"too many numbers", fine + "force 1 2 3 4 5 6 7\n", 2, api.ErrSyntax},
		{"no numbers", "force\n", 1, api.ErrSyntax},
		{"another word", "pull 1 2 3 4 5 6\n", 1, api.ErrSyntax},
		{"a capital letter", "Force 1 2 3 4 5 6\n", 1, api.ErrSyntax},
		{"no word", "1 2 3 4 5 6\n", 1, api.ErrSyntax},
		{"an empty word", " 1 2 3 4 5 6\n", 1, api.ErrSyntax},
		{"a word for a number", "force 1 2 3 4 5 x\n", 1, api.ErrSyntax},
		{"an empty number", "force 1 2 3 4 5 \n", 1, api.ErrSyntax},
		{"two blanks", "force  1 2 3 4 5 6\n", 1, api.ErrSyntax},
		{"a blank ahead", " force 1 2 3 4 5 6\n", 1, api.ErrSyntax},
		{"a blank behind", "force 1 2 3 4 5 6 \n", 1, api.ErrSyntax},
		{"a tab", "force\t1 2 3 4 5 6\n", 1, api.ErrSyntax},
		{"a return", "force 1 2 3 4 5 6\r\n", 1, api.ErrSyntax},
		{"a plus sign", "force +1 2 3 4 5 6\n", 1, api.ErrSyntax},
		{"-0", "force 1 2 3 4 5 -0\n", 1, api.ErrSyntax},
		{"a leading zero", "force 1 2 03 4 5 6\n", 1, api.ErrSyntax},
		{"11 digits", "force 1 2 3 4 5 10000000000\n", 1, api.ErrSyntax},
		{"11 digits below 0", "force -10000000000 2 3 4 5 6\n", 1, api.ErrSyntax},
		{"10 digits", "force 1 2 3 4 5 9999999999\n", 0, api.ErrRange},
		{"10 digits below 0", "force -9999999999 2 3 4 5 6\n", 0, api.ErrRange},
		{"the greatest numbers", "force -1000000 1000000 0 -1000000000 1000000000 0\n", 0, api.OK},
		{"no line feed", fine + "force 1 2 3 4 5 6", 2, api.ErrSyntax},
		{"a word without a line feed", "force", 1, api.ErrSyntax},
		{"the first of two wrong lines", fine + "x\ny\n", 2, api.ErrSyntax},
		{"a wrong line behind a wrong place", "force 1000001 2 3 4 5 6\nx\n", 2, api.ErrSyntax},
		{"a wrong place", fine + "force 1000001 2 3 4 5 6\n", 0, api.ErrRange},
		{"a wrong force", fine + "force 1 2 3 1000000001 5 6\n", 0, api.ErrRange},
		{"300 forces", strings.Repeat(fine, 300), 0, api.OK},
		{"301 forces", strings.Repeat(fine, 301), 0, api.ErrLarge},
		{"a wrong line behind 301 forces", strings.Repeat(fine, 301) + "x\n", 302, api.ErrSyntax},
		{"60000 bytes", strings.Repeat("x", 60000), 1, api.ErrSyntax},
		{"60001 bytes", strings.Repeat("x", 60001), 0, api.ErrLarge},
	} {
		l, line, e := plate.Parse(c.text)
		if line != c.line || e != c.want {
			t.Errorf("%s: line %d, error %d, want %d, error %d", c.what, line, e, c.line, c.want)
		}
		if e != api.OK && l != nil {
			t.Errorf("%s: %v beside an error", c.what, l)
		}
	}
	if l, _, _ := plate.Parse(coupleText); !slices.Equal(l, couple()) {
		t.Errorf("Parse of the example: %v", l)
	}
	if l, _, _ := plate.Parse(fine); !slices.Equal(l, []api.Pulled{{At: at(1, 2, 3), Force: at(4, 5, 6)}}) {
		t.Errorf("Parse of six numbers: %v", l)
	}
}

// P3.7: Parse undoes Print.
func TestParseUndoesPrint(t *testing.T) {
	r := dice()
	for range 100 {
		l := randomForces(r, r.IntN(301), 1000000, 1000000000)
		text, e := plate.Print(l)
		wantErr(t, "Print", e, api.OK)
		again, line, e := plate.Parse(text)
		if e != api.OK || line != 0 || !slices.Equal(again, l) {
			t.Fatalf("%d forces: %d, line %d, error %d", len(l), len(again), line, e)
		}
	}
}

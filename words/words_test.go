package words_test

import (
	"maps"
	"math"
	"slices"
	"strconv"
	"testing"

	"agraffe/api"
	"agraffe/words"
)

func TestNames(t *testing.T) {
	for _, s := range []string{"a", "Z", "g1", "a-", "a-9-Z", "abcdefghijkl", "zzzzzzzzzzzz", "A00000000009"} {
		if !words.IsName(s) {
			t.Errorf("%q is no name", s)
		}
	}
	for _, s := range []string{"", "-", "1a", "-a", "abcdefghijklm", "a b", "a_b", "a\n", "a.", "a/", "a:", "a@", "a[", "a`", "a{", "ä", "aä", "a\x00", " a"} {
		if words.IsName(s) {
			t.Errorf("%q is a name", s)
		}
	}
}

func TestFoundNames(t *testing.T) {
	names := []string{"b", "a", "b", "", "c"}
	itself := func(s string) string { return s }
	numbers := words.NumbersOf(names, itself)
	if want := map[string]int{"b": 0, "a": 1, "": 3, "c": 4}; !maps.Equal(numbers, want) {
		t.Errorf("numbers: %v, want %v", numbers, want)
	}
	if numbers := words.NumbersOf(nil, itself); len(numbers) != 0 {
		t.Errorf("numbers of nothing: %v", numbers)
	}
	for n, want := range []api.Errno{api.OK, api.OK, api.ErrExists, api.ErrName, api.OK} {
		if e := words.NameError(names[n], n, numbers); e != want {
			t.Errorf("name %d: error %d, want %d", n, e, want)
		}
	}
	for _, c := range []struct {
		l    []string
		want api.Errno
	}{
		{nil, api.OK},
		{[]string{"c"}, api.OK},
		{[]string{"c", "a", "b", ""}, api.OK},
		{[]string{"c", "d", "c"}, api.ErrMissing},
		{[]string{"c", "a", "c", "d"}, api.ErrExists},
		{[]string{"d", "d"}, api.ErrMissing},
	} {
		if e := words.NamesError(c.l, numbers); e != c.want {
			t.Errorf("%q: error %d, want %d", c.l, e, c.want)
		}
	}
}

func TestNumbers(t *testing.T) {
	for _, n := range []int{0, 1, -1, 9, -10, 999999999, -999999999} {
		if got, fits := words.Number(strconv.Itoa(n), 9); got != n || !fits {
			t.Errorf("%d: %d, %t", n, got, fits)
		}
	}
	for _, s := range []string{"", "-", "+1", "-0", "00", "01", "-01", "1000000000", "-1000000000", " 1", "1 ", "1.0", "0x1", "1_0", "١", "99999999999999999999", "--1", "a"} {
		if n, fits := words.Number(s, 9); n != 0 || fits {
			t.Errorf("%q: %d, %t", s, n, fits)
		}
	}
	if n, fits := words.Number("1000000000000", 13); n != 1000000000000 || !fits {
		t.Errorf("13 digits: %d, %t", n, fits)
	}
	if l, fit := words.Numbers([]string{"1", "-2", "30"}, 2); !fit || !slices.Equal(l, []int{1, -2, 30}) {
		t.Errorf("numbers: %v, %t", l, fit)
	}
	if l, fit := words.Numbers([]string{"1", "-2", "300"}, 2); fit || l != nil {
		t.Errorf("a number that is too long: %v, %t", l, fit)
	}
	if l, fit := words.Numbers(nil, 2); !fit || len(l) != 0 {
		t.Errorf("no numbers: %v, %t", l, fit)
	}
}

func TestLine(t *testing.T) {
	for want, got := range map[string]string{
		"\n":                       words.Line(),
		"a\n":                      words.Line("a"),
		"a -3  b 0\n":              words.Line("a", -3, "", "b", 0),
		"-9223372036854775808 \n":  words.Line(math.MinInt, ""),
		"fork 440000 9223372036\n": words.Line("fork", 440000, 9223372036),
	} {
		if got != want {
			t.Errorf("%q, want %q", got, want)
		}
	}
}

func TestJoined(t *testing.T) {
	for want, got := range map[string]string{
		"":          words.Joined(),
		"a":         words.Joined("a"),
		"3 -2":      words.Joined(3, -2),
		" 0  b ":    words.Joined("", 0, "", "b", ""),
		"young 2 0": words.Joined("young", 2, 0),
	} {
		if got != want {
			t.Errorf("%q, want %q", got, want)
		}
	}
}

func TestLines(t *testing.T) {
	for text, want := range map[string][][]string{
		"":             nil,
		"\n":           {{""}},
		" \n":          {{"", ""}},
		"a b\n":        {{"a", "b"}},
		"a  b\n\nc":    {{"a", "", "b"}, {""}, nil},
		"a\r\n\tb c\n": {{"a\r"}, {"\tb", "c"}},
		" ":            {nil},
	} {
		var got [][]string
		for n, l := range words.Lines(text) {
			got = append(got, l)
			if n != len(got) {
				t.Errorf("%q: line %d has the number %d", text, len(got), n)
			}
		}
		if !slices.EqualFunc(got, want, slices.Equal) {
			t.Errorf("%q: %q, want %q", text, got, want)
		}
	}
	for n := range words.Lines("a\nb\nc\n") {
		if n == 2 {
			break
		}
		if n > 2 {
			t.Error("the loop goes on behind its break")
		}
	}
}

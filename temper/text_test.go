package temper_test

import (
	"strings"
	"testing"

	"agraffe/api"
	"agraffe/temper"
)

var texts = map[string]string{
	"equal":        "equal 1 0 1 0 1 0 1 0 1 0 1 0 1 0 1 0 1 0 1 0 1 0 1 0",
	"pythagoras":   "pythagoras 0 0 0 0 0 0 0 0 0 0 0 0 0 0 0 0 12 0 0 0 0 0 0 0",
	"meantone":     "meantone 0 3 0 3 0 3 0 3 0 3 0 3 0 3 0 3 12 -33 0 3 0 3 0 3",
	"werckmeister": "werckmeister 3 0 3 0 3 0 0 0 0 0 3 0 0 0 0 0 0 0 0 0 0 0 0 0",
	"kirnberger":   "kirnberger 0 3 0 3 0 3 0 3 0 0 0 0 12 -12 0 0 0 0 0 0 0 0 0 0",
	"vallotti":     "vallotti 2 0 2 0 2 0 2 0 2 0 0 0 0 0 0 0 0 0 0 0 0 0 2 0",
	"young":        "young 2 0 2 0 2 0 2 0 2 0 2 0 0 0 0 0 0 0 0 0 0 0 0 0",
}

// P6.9: the texts of the named temperaments.
func TestTexts(t *testing.T) {
	for name, text := range texts {
		x := named(t, name)
		if got, e := temper.Print(x); got != text || e != api.OK {
			t.Errorf("%s: %q, error %d", name, got, e)
		}
		if got, e := temper.Parse(text); got != x || e != api.OK {
			t.Errorf("%q: %v, error %d", text, got, e)
		}
	}
	for want, bad := range badTemperaments() {
		if got, e := temper.Print(bad); got != "" || e != want {
			t.Error("Print:", bad, got, e)
		}
	}
}

// P6.9: what is no text of a temperament.
func TestParse(t *testing.T) {
	young := texts["young"]
	numbers := strings.TrimPrefix(young, "young")
	with := func(first string) string { return "young " + first + strings.TrimPrefix(numbers, " 2") }
	for _, c := range []struct {
		what, text string
		want       api.Errno
	}{
		{"another name", "a-1" + numbers, api.OK},
		{"nothing", "", api.ErrSyntax},
		{"a name alone", "young", api.ErrSyntax},
		{"24 words", strings.TrimSuffix(young, " 0"), api.ErrSyntax},
		{"26 words", young + " 0", api.ErrSyntax},
		{"a blank behind", young + " ", api.ErrSyntax},
		{"a blank ahead", " " + young, api.ErrSyntax},
		{"a blank ahead, and a number less", " " + strings.TrimSuffix(young, " 0"), api.ErrSyntax},
		{"two blanks", strings.Replace(young, " ", "  ", 1), api.ErrSyntax},
		{"two blanks for a number", strings.TrimSuffix(young, " 0 0") + "  0", api.ErrSyntax},
		{"a line feed", young + "\n", api.ErrSyntax},
		{"a line feed for a blank", strings.Replace(young, " 0 ", " 0\n", 1), api.ErrSyntax},
		{"a tab for a blank", strings.Replace(young, " ", "\t", 1), api.ErrSyntax},
		{"no name", numbers, api.ErrName},
		{"an empty name alone", numbers[1:], api.ErrSyntax},
		{"a name that is none", "1young" + numbers, api.ErrName},
		{"a name with a tab", "yo\tung" + numbers, api.ErrName},
		{"13 letters", "abcdefghijklm" + numbers, api.ErrName},
		{"a wrong name ahead of a wrong range", "-" + strings.Replace(numbers, " 2", " 99", 1), api.ErrName},
		{"a wrong number ahead of a wrong name", "-" + strings.Replace(numbers, " 2", " x", 1), api.ErrSyntax},
		{"3 digits", with("999"), api.ErrRange},
		{"3 digits below 0", with("-999"), api.ErrRange},
		{"4 digits", with("1000"), api.ErrSyntax},
		{"4 digits below 0", with("-1000"), api.ErrSyntax},
		{"20 digits", with("99999999999999999999"), api.ErrSyntax},
		{"a leading zero", with("02"), api.ErrSyntax},
		{"a leading zero below 0", with("-02"), api.ErrSyntax},
		{"-0", with("-0"), api.ErrSyntax},
		{"00", with("00"), api.ErrSyntax},
		{"a plus sign", with("+2"), api.ErrSyntax},
		{"a minus sign alone", with("-"), api.ErrSyntax},
		{"two minus signs", with("--2"), api.ErrSyntax},
		{"a letter", with("x"), api.ErrSyntax},
		{"a hexadecimal number", with("0x2"), api.ErrSyntax},
		{"a fraction", with("2/1"), api.ErrSyntax},
		{"another digit", with("٢"), api.ErrSyntax},
		{"a letter as the last number", strings.TrimSuffix(young, "0") + "x", api.ErrSyntax},
		{"an open circle", with("3"), api.ErrOpen},
		{"a negative number", with("-2"), api.ErrOpen},
		{"48", with("48"), api.ErrOpen},
		{"49", with("49"), api.ErrRange},
		{"too great a spread", "a -4 2 -7 5 3 3 8 2 8 -8 -2 7 3 -5 -4 -6 -4 -12 2 3 2 2 7 7", api.ErrLarge},
		{"300 bytes", strings.Repeat("x", 300), api.ErrSyntax},
		{"301 bytes", strings.Repeat("x", 301), api.ErrLarge},
		{"300 bytes with 25 words", strings.Repeat("x", 300-len(numbers)) + numbers, api.ErrName},
		{"301 bytes with 25 words", strings.Repeat("x", 301-len(numbers)) + numbers, api.ErrLarge},
		{"bytes that are no letters", "\xff\xfe" + numbers, api.ErrName},
	} {
		got, e := temper.Parse(c.text)
		if wantErr(t, c.what, e, c.want); e != api.OK && got != (api.Temperament{}) {
			t.Error(c.what, got, "beside an error")
		}
	}
}

// P6.9: Parse undoes Print.
func TestParseUndoesPrint(t *testing.T) {
	for _, x := range someTemperaments(t, dice(), 300) {
		text, e := temper.Print(x)
		wantErr(t, "Print", e, api.OK)
		if again, e := temper.Parse(text); again != x || e != api.OK {
			t.Fatal(x, text, again, e)
		}
	}
}

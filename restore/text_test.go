package restore_test

import (
	"math"
	"reflect"
	"slices"
	"strings"
	"testing"

	"agraffe/api"
	"agraffe/restore"
)

// P8.5: the texts of promises, whatever they are.
func TestPromiseTexts(t *testing.T) {
	for text, p := range map[string]api.PartPromise{
		"p2 felt 3":         promise("p2", "felt", 3),
		"  0":               {},
		"p1  -3":            promise("p1", "", -3),
		" felt 999999":      promise("", "felt", 999999),
		"1 2 -999999":       promise("1", "2", -999999),
		"a\nb \xff\t 10000": promise("a\nb", "\xff\t", 10000),
		"abcdefghijklm - 1": promise("abcdefghijklm", "-", 1),
	} {
		if got := restore.FormatPromise(p); got != text {
			t.Errorf("%v: %q, want %q", p, got, text)
		}
		if got, e := restore.ParsePromise(text); got != p || e != api.OK {
			t.Errorf("%q: %v, error %d, want %v", text, got, e, p)
		}
	}
	for text, p := range map[string]api.PartPromise{
		"a b c d 1":                promise("a b", "c d", 1),
		"p felt 1000000":           promise("p", "felt", 1000000),
		"p f -9223372036854775808": promise("p", "f", math.MinInt),
	} {
		if got := restore.FormatPromise(p); got != text {
			t.Errorf("%v: %q, want %q", p, got, text)
		}
	}
	for _, text := range []string{
		"", " ", "p2", "p2 felt", "p2 felt ", "p2 3", " p2 felt 3", "p2  felt 3", "p2 felt  3", "p2 felt 3 ", "p2 felt 3 4", "p2 felt 3\n",
		"p2 felt x", "p2 felt 03", "p2 felt +3", "p2 felt -0", "p2 felt -03", "p2 felt 3.0", "p2 felt 0x3", "p2 felt 1_0", "p2 felt ٣", "p2 felt -",
		"p2 felt 1000000", "p2 felt -1000000", "p2 felt 99999999999999999999", "p2\tfelt\t3", "p2 felt\n3",
	} {
		if got, e := restore.ParsePromise(text); got != (api.PartPromise{}) || e != api.ErrSyntax {
			t.Errorf("%q: %v, error %d", text, got, e)
		}
	}
	r := dice()
	for range 200 {
		p := promise(numbered("p", 20)[r.IntN(20)], numbered("x-", 20)[r.IntN(20)], from(r, 1, 10000))
		if got, e := restore.ParsePromise(restore.FormatPromise(p)); got != p || e != api.OK {
			t.Fatal(p, got, e)
		}
	}
}

const worksText = "task open 1000 2\n" +
	"task clean 2000 3\n" +
	"needs open\n" +
	"task patch 5000 8\n" +
	"needs clean\n" +
	"part felt 2\n" +
	"task renew 9000 5\n" +
	"needs open\n" +
	"part felt 1\n" +
	"task tune 4000 4\n" +
	"oneof patch renew\n"

// P8.9: the texts of tasks.
func TestPrint(t *testing.T) {
	full := append(tasks(3), api.Task{
		Name: "part", Cents: 1000000000, Hours: 10000, Needs: []string{"t2", "t0"},
		OneOf: [][]string{{"t1"}, {"t0", "t1", "needs"}}, Parts: []api.PartCount{part("task", 1000), part("oneof", 1)},
	}, api.Task{Name: "needs"})
	const fullText = "task t0 0 0\ntask t1 0 0\ntask t2 0 0\ntask part 1000000000 10000\nneeds t2 t0\noneof t1\noneof t0 t1 needs\npart task 1000\npart oneof 1\ntask needs 0 0\n"
	for _, c := range []struct {
		l    []api.Task
		want string
	}{
		{works(), worksText}, {nil, ""}, {full, fullText},
	} {
		text, e := restore.Print(c.l)
		if text != c.want || e != api.OK {
			t.Errorf("%q, error %d, want %q", text, e, c.want)
		}
		if l, line, e := restore.Parse(c.want); !sameTasks(l, c.l) || line != 0 || e != api.OK {
			t.Errorf("%q: %v, line %d, error %d", c.want, l, line, e)
		}
	}
	for want, l := range badTasks() {
		if text, e := restore.Print(l); text != "" || e != want {
			t.Errorf("%q, error %d, want %d", text, e, want)
		}
	}
}

// sameTasks takes lists that are nil and lists that are empty as the same.
func sameTasks(a, b []api.Task) bool {
	return slices.EqualFunc(a, b, func(x, y api.Task) bool {
		same := slices.Equal(x.Needs, y.Needs) && slices.Equal(x.Parts, y.Parts) &&
			slices.EqualFunc(x.OneOf, y.OneOf, func(g, h []string) bool { return slices.Equal(g, h) })
		x.Needs, x.OneOf, x.Parts = y.Needs, y.OneOf, y.Parts
		return same && reflect.DeepEqual(x, y)
	})
}

type textCase struct {
	what, text string
	line       int
	want       api.Errno
}

func checkTexts(t *testing.T, l []textCase) {
	t.Helper()
	for _, c := range l {
		tasks, line, e := restore.Parse(c.text)
		if wantOnly(t, c.what, tasks, e, c.want); line != c.line {
			t.Errorf("%s: line %d, want %d", c.what, line, c.line)
		}
	}
}

// P8.9: the order of lines, and line feeds.
func TestLinesOfTexts(t *testing.T) {
	const a = "task a 1 2\n"
	checkTexts(t, []textCase{
		{"nothing", "", 0, api.OK},
		{"the example", worksText, 0, api.OK},
		{"needs ahead of a task", "needs a\n" + a, 1, api.ErrSyntax},
		{"a group ahead of a task", "oneof a\n" + a, 1, api.ErrSyntax},
		{"a part ahead of a task", "part felt 1\n" + a, 1, api.ErrSyntax},
		{"all in order", a + "task b 1 2\nneeds a\noneof a\noneof a\npart f 1\npart g 1\n", 0, api.OK},
		{"needs twice", a + "task b 1 2\nneeds a\nneeds a\n", 4, api.ErrSyntax},
		{"needs behind a group", a + "task b 1 2\noneof a\nneeds a\n", 4, api.ErrSyntax},
		{"needs behind a part", a + "part f 1\nneeds a\n", 3, api.ErrSyntax},
		{"needs twice around a group", a + "task b 1 2\nneeds a\noneof a\nneeds a\n", 5, api.ErrSyntax},
		{"a group behind a part", a + "task b 1 2\npart f 1\noneof a\n", 4, api.ErrSyntax},
		{"a group behind needs and a part", a + "task b 1 2\nneeds a\npart f 1\noneof a\n", 5, api.ErrSyntax},
		{"needs of the next task", a + "part f 1\ntask b 1 2\nneeds a\ntask c 1 2\nneeds a\n", 0, api.OK},
		{"an empty line", "\n", 1, api.ErrSyntax},
		{"an empty line behind", worksText + "\n", 12, api.ErrSyntax},
		{"an empty line between", a + "\n" + "part f 1\n", 2, api.ErrSyntax},
		{"no line feed", "task a 1 2", 1, api.ErrSyntax},
		{"no line feed behind a part", a + "part f 1", 2, api.ErrSyntax},
		{"a return", "task a 1 2\r\n", 1, api.ErrSyntax},
		{"the first of two wrong lines", a + "x\ny\n", 2, api.ErrSyntax},
		{"a wrong line behind a wrong task", "task 1 1 2\nx\n", 2, api.ErrSyntax},
		{"60 tasks", strings.Join(slices.Collect(lines(60)), ""), 0, api.OK},
		{"61 tasks", strings.Join(slices.Collect(lines(61)), ""), 0, api.ErrLarge},
		{"60000 bytes", strings.Repeat("x", 60000), 1, api.ErrSyntax},
		{"60000 bytes in lines", strings.Repeat("task a 10 2\n", 5000), 0, api.ErrLarge},
		{"60001 bytes", strings.Repeat("x", 60001), 0, api.ErrLarge},
		{"60001 bytes, of which the first line is wrong", "\n" + strings.Repeat("x", 60000), 0, api.ErrLarge},
	})
}

// lines yields those of so many tasks.
func lines(count int) func(yield func(string) bool) {
	return func(yield func(string) bool) {
		for _, name := range numbered("t", count) {
			if !yield("task " + name + " 0 0\n") {
				return
			}
		}
	}
}

// P8.9: words of lines, and then the error of CheckTasks.
func TestWordsOfTexts(t *testing.T) {
	line := func(what, text string, want api.Errno) textCase {
		c := textCase{what, "task a 1 2\ntask b 1 2\n" + text + "\n", 3, want}
		if want != api.ErrSyntax {
			c.line = 0
		}
		return c
	}
	checkTexts(t, []textCase{
		line("a task", "task c 1 2", api.OK),
		line("a task without hours", "task c 1", api.ErrSyntax),
		line("a task and more", "task c 1 2 3", api.ErrSyntax),
		line("a task and a blank", "task c 1 2 ", api.ErrSyntax),
		line("a task alone", "task", api.ErrSyntax),
		line("a blank ahead", " task c 1 2", api.ErrSyntax),
		line("two blanks", "task c  1 2", api.ErrSyntax),
		line("another word", "work c 1 2", api.ErrSyntax),
		line("a capital letter", "Task c 1 2", api.ErrSyntax),
		line("an empty name", "task  1 2", api.ErrName),
		line("a name that is none", "task \xff 1 2", api.ErrName),
		line("a name twice", "task a 1 2", api.ErrExists),
		line("a word as Cents", "task c x 2", api.ErrSyntax),
		line("a word as Hours", "task c 1 x", api.ErrSyntax),
		line("a leading zero", "task c 01 2", api.ErrSyntax),
		line("a plus sign", "task c 1 +2", api.ErrSyntax),
		line("-0", "task c -0 2", api.ErrSyntax),
		line("Cents below 0", "task c -1 2", api.ErrRange),
		line("10 digits", "task c 9999999999 2", api.ErrRange),
		line("10 digits below 0", "task c 1 -9999999999", api.ErrRange),
		line("11 digits", "task c 10000000000 2", api.ErrSyntax),
		line("11 digits below 0", "task c 1 -10000000000", api.ErrSyntax),
		line("20 digits", "task c 99999999999999999999 2", api.ErrSyntax),
		line("needs", "needs a", api.OK),
		line("needs without names", "needs", api.ErrSyntax),
		line("needs with an empty name", "needs ", api.ErrMissing),
		line("needs with an empty name between", "needs a  a", api.ErrMissing),
		line("needs twice the same", "needs a a", api.ErrExists),
		line("needs itself", "needs b", api.ErrCycle),
		line("11 needs", "needs"+strings.Repeat(" a", 11), api.ErrLarge),
		line("need", "need a", api.ErrSyntax),
		line("a group", "oneof a", api.OK),
		line("a group without names", "oneof", api.ErrSyntax),
		line("a group with an empty name", "oneof ", api.ErrMissing),
		line("a group with an empty name behind", "oneof a ", api.ErrMissing),
		line("a group of itself", "oneof a b", api.ErrCycle),
		line("one of", "one of a", api.ErrSyntax),
		line("a part", "part felt 1000", api.OK),
		line("a part without a count", "part felt", api.ErrSyntax),
		line("a part and more", "part felt 1 2", api.ErrSyntax),
		line("a part alone", "part", api.ErrSyntax),
		line("a part with an empty name", "part  1", api.ErrName),
		line("a part with a word as its count", "part felt x", api.ErrSyntax),
		line("a part with an empty count", "part felt ", api.ErrSyntax),
		line("a count with a leading zero", "part felt 01", api.ErrSyntax),
		line("a count of 10 digits", "part felt 9999999999", api.ErrRange),
		line("a count of 11 digits", "part felt 10000000000", api.ErrSyntax),
		line("a part twice", "part felt 1\npart felt 2", api.ErrExists),
	})
}

// P8.11: Parse undoes Print.
func TestParseUndoesPrint(t *testing.T) {
	r := dice()
	for range 300 {
		l := randomTasks(r, from(r, 0, 20))
		text, e := restore.Print(l)
		wantErr(t, "Print", e, api.OK)
		again, line, e := restore.Parse(text)
		if !sameTasks(again, l) || line != 0 || e != api.OK {
			t.Fatal(l, text, again, line, e)
		}
	}
	var longest []api.Task
	names := numbered("abcdefghij", 60)
	for n := range names {
		names[n] = (names[n] + "x")[:12]
		x := api.Task{Name: names[n], Cents: 1000000000, Hours: 10000}
		if n >= 10 {
			x.Needs, x.OneOf = names[:10], slices.Repeat([][]string{names[:6]}, 6)
		}
		for _, p := range numbered("abcdefghijk", 10) {
			x.Parts = append(x.Parts, part(p, 1000))
		}
		longest = append(longest, x)
	}
	text, e := restore.Print(longest)
	wantErr(t, "Print", e, api.OK)
	if again, line, e := restore.Parse(text); !sameTasks(again, longest) || line != 0 || e != api.OK {
		t.Error("the longest text:", len(text), again, line, e)
	}
}

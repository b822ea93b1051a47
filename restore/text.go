package restore

import (
	"strings"

	"agraffe/api"
	"agraffe/words"
)

const (
	taskDigits    = 10
	promiseDigits = 6
	taskWord      = "task"
	needsWord     = "needs"
	oneOfWord     = "oneof"
	partWord      = "part"
)

// FormatPromise returns the text of a promise (P8.5).
func FormatPromise(p api.PartPromise) string {
	return words.Joined(p.Instrument, p.Part, p.Count)
}

// ParsePromise returns the promise with a text (P8.5).
func ParsePromise(s string) (api.PartPromise, api.Errno) {
	l := strings.Split(s, " ")
	if len(l) != 3 {
		return api.PartPromise{}, api.ErrSyntax
	}
	count, fits := words.Number(l[2], promiseDigits)
	if !fits {
		return api.PartPromise{}, api.ErrSyntax
	}
	return api.PartPromise{Instrument: l[0], Part: l[1], Count: count}, api.OK
}

// Print returns the text of tasks (P8.9).
func Print(t []api.Task) (string, api.Errno) {
	if e := CheckTasks(t); e != api.OK {
		return "", e
	}
	var text strings.Builder
	for _, x := range t {
		text.WriteString(words.Line(taskWord, x.Name, x.Cents, x.Hours))
		if len(x.Needs) > 0 {
			text.WriteString(namesLine(needsWord, x.Needs))
		}
		for _, group := range x.OneOf {
			text.WriteString(namesLine(oneOfWord, group))
		}
		for _, p := range x.Parts {
			text.WriteString(words.Line(partWord, p.Part, p.Count))
		}
	}
	return text.String(), api.OK
}

func namesLine(word string, names []string) string {
	return words.Line(word, strings.Join(names, " "))
}

// Parse returns the tasks with a text, or the first line that is wrong (P8.9).
func Parse(s string) ([]api.Task, int, api.Errno) {
	if len(s) > api.MaxText {
		return nil, 0, api.ErrLarge
	}
	var tasks []api.Task
	for n, l := range words.Lines(s) {
		if !takeLine(&tasks, l) {
			return nil, n, api.ErrSyntax
		}
	}
	if e := CheckTasks(tasks); e != api.OK {
		return nil, 0, e
	}
	return tasks, 0, api.OK
}

// takeLine adds what a line says to tasks, and tells whether it may stand there.
func takeLine(tasks *[]api.Task, l []string) bool {
	if len(l) == 4 && l[0] == taskWord {
		return takeTask(tasks, l[1], l[2:])
	}
	if len(*tasks) == 0 {
		return false
	}
	t := &(*tasks)[len(*tasks)-1]
	switch {
	case len(l) >= 2 && l[0] == needsWord && len(t.Needs) == 0 && len(t.OneOf) == 0 && len(t.Parts) == 0:
		t.Needs = l[1:]
		return true
	case len(l) >= 2 && l[0] == oneOfWord && len(t.Parts) == 0:
		t.OneOf = append(t.OneOf, l[1:])
		return true
	case len(l) == 3 && l[0] == partWord:
		return takePart(t, l[1], l[2])
	}
	return false
}

func takeTask(tasks *[]api.Task, name string, numbers []string) bool {
	n, fit := words.Numbers(numbers, taskDigits)
	if fit {
		*tasks = append(*tasks, api.Task{Name: name, Cents: n[0], Hours: n[1]})
	}
	return fit
}

func takePart(t *api.Task, part, number string) bool {
	count, fits := words.Number(number, taskDigits)
	if fits {
		t.Parts = append(t.Parts, api.PartCount{Part: part, Count: count})
	}
	return fits
}

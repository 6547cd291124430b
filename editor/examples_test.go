package editor_test

import (
	"testing"

	"postil/api"
	"postil/editor"
)

// told is the lines of the chapter's examples, with their answers.
var told = [][2]string{
	{"send 0 1 0", "part 0 back 6"},
	{"back 0 the sea is old / old the sea", "denied: early"},
	{"day 6", "day 6"},
	{"back 0 the sea is old / old the sea", "faults 0"},
	{"slip 0 0 1", "slip 1"},
	{"slip 1 0 0", "denied: doubt"},
	{"form old old 1", "decision 1 changes 2"},
	{"form old old 1", "denied: idle"},
	{"slip 0 0 3", "slip 2"},
	{"print old 1", "denied: open"},
	{"slip 0 1 0", "slip 3"},
	{"print old 1", "lines 4"},
	{"void 1", "denied: printed"},
	{"save", "generation 1"},
	{"undo 0", "denied: printed"},
}

// linesTold is the lines of the chapter's examples, and answersTold their answers.
func linesTold() (lines, answers []string) {
	for _, x := range told {
		lines, answers = append(lines, x[0]), append(answers, x[1])
	}
	return lines, answers
}

const volumeTold = "old/1\nold 2\n1.1.4: is [old] old the\n2.5.1: is old [old] the\n"

// The examples of the chapter, line by line.
func TestExamples(t *testing.T) {
	lines, answers := linesTold()
	o, got, at, e := editor.Play(example(), lines)
	wantList(t, "answers", got, e, answers...)
	wantOne(t, "at", at, e, 0)
	written, of, printed, heads, e := editor.Progress(o)
	wantOne(t, "progress", [4]int{written, of, printed, heads}, e, [4]int{3, 10, 1, 5})
	volume, e := editor.Volume(o)
	wantOne(t, "volume", volume, e, volumeTold)
}

// The examples of the chapter, from their files.
func TestExamplesFromFiles(t *testing.T) {
	lines, _ := linesTold()
	files, e := editor.Pack(example(), lines)
	if e != api.OK {
		t.Fatal(e)
	}
	o, volume, at, e := editor.Unpack(files, five(), even, two())
	wantOne(t, "volume", volume, e, volumeTold)
	wantOne(t, "at", at, e, 0)
	want, _, _, _ := editor.Play(example(), lines)
	if !alike(o, want) {
		t.Errorf("%+v, not %+v", o, want)
	}
}

// Example 12 of the document: send 0 1 0, part 0 back 6.
func TestExampleOfTheDocument(t *testing.T) {
	_, answers, _, e := editor.Play(example(), []string{"send 0 1 0"})
	wantList(t, "send", answers, e, "part 0 back 6")
}

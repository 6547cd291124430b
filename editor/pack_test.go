package editor_test

import (
	"slices"
	"strings"
	"testing"

	"postil/api"
	"postil/editor"
)

// P12.6: the files of any office and any lines are the rows of its text, of its lexicon, and the lines.
func TestPack(t *testing.T) {
	d := dice(12)
	for range 200 {
		o := d.walked(d.roll(40))
		l := d.year(o, d.roll(61))
		files, e := editor.Pack(o, l)
		wantList(t, l, files, e, filesOf(o, l)...)
	}
	files, e := editor.Pack(example(), nil)
	wantList(t, "no lines", files, e, sheafOf([]string{"chapter 7", "line the sea is old", "line old the sea", "chapter 3", "line sea and sea"}), "", "")
	files, e = editor.Pack(full(), []string{"day 9"})
	wantList(t, "full", files[1:], e, sheafOf([]string{"cut s 2", "cut ld lde 1", "form 1 old age 3", "place 2 1 0 2 see 2", "form 3 is be 2"}), sheafOf([]string{"day 9"}))
}

// P12.6: each error of Pack, in the order in which they are named.
func TestErrorsOfPack(t *testing.T) {
	long := "back 0 " + strings.TrimSuffix(strings.Repeat("abcdefghi ", 10), " ")
	fits, more := long+" / "+strings.Repeat("abcd ", 9)+"abcdef", long+" / "+strings.Repeat("abcd ", 9)+"abcdefg"
	if len(fits) != 160 || len(more) != 161 {
		t.Fatal(len(fits), len(more))
	}
	saves := slices.Repeat([]string{"save"}, 61)
	for _, x := range []struct {
		lines []string
		want  api.Errno
	}{
		{nil, api.OK},
		{saves[:60], api.OK},
		{saves, api.ErrMany},
		{slices.Concat(saves, []string{"none", more}), api.ErrMany},
		{[]string{"none"}, api.ErrOrder},
		{[]string{"day 1", ""}, api.ErrOrder},
		{[]string{more, "none"}, api.ErrOrder},
		{[]string{"day 1\n"}, api.ErrOrder},
		{[]string{fits}, api.OK},
		{[]string{more}, api.ErrRows},
		{[]string{"day 1", fits, more}, api.ErrRows},
		{slices.Repeat([]string{fits}, 60), api.OK},
	} {
		wantErrors(t, input{o: full(), lines: x.lines}, []string{"Pack"}, x.want)
	}
	// What is no row may be played.
	_, answers, _, e := editor.Play(example(), []string{more})
	wantList(t, "play", answers, e, "denied: part")
}

// P12.7: a year is played again from its files to the same office, and the same volume.
func TestYearIsPlayedAgain(t *testing.T) {
	d := dice(13)
	volumes := map[string]bool{}
	for range 200 {
		o := d.office()
		l := d.year(o, 60)
		want, _, _, e := editor.Play(o, l)
		if e != api.OK {
			t.Error(e)
		}
		files, e := editor.Pack(o, l)
		if e != api.OK {
			t.Error(e)
		}
		after, volume, at, e := editor.Unpack(files, o.Edition, o.Cut, o.Round.Helpers)
		wantOne(t, l, volume, e, volumeOf(want))
		wantOne(t, l, at, e, 0)
		if !alike(after, want) {
			t.Errorf("%q: %+v, not %+v", l, after, want)
		}
		volumes[volume] = true
	}
	if len(volumes) < 30 {
		t.Error(len(volumes))
	}
}

// wantUnpacked checks the error that files have, and the index with it.
func wantUnpacked(t *testing.T, x input, want api.Errno, index int) {
	t.Helper()
	o, volume, at, e := editor.Unpack(x.files, x.edition, x.cut, x.helpers)
	if e != want || at != index || want != api.OK && (!isZero(o) || volume != "") {
		t.Errorf("%q: %+v, %q, %v, %v, not %v, %v", x.files, o, volume, at, e, index, want)
	}
}

// yearFiles is files of the chapter's example, with all that they are unpacked with.
func yearFiles() input {
	lines, _ := linesTold()
	files := filesOf(example(), lines)
	return input{files: files, edition: five(), cut: even, helpers: two()}
}

// P12.6: each error of Unpack, in the order in which they are named.
func TestErrorsOfUnpack(t *testing.T) {
	right := yearFiles()
	wantUnpacked(t, right, api.OK, 0)
	for _, wrong := range []struct {
		e      api.Errno
		at     int
		change func(x *input)
	}{
		{api.ErrOrder, 2, func(x *input) { x.files[2] = sheafOf([]string{"day 1", "save", "none", "nothing"}) }},
		{api.ErrMany, 0, func(x *input) { x.files[2] = sheafOf(slices.Repeat([]string{"none"}, 61)) }},
		{api.ErrOffice, 0, func(x *input) { x.helpers = nil }},
		{api.ErrOffice, 0, func(x *input) { x.cut.Width = 81 }},
		{api.ErrOffice, 0, func(x *input) { x.edition.Id = -1 }},
		{api.ErrLexicon, 0, func(x *input) { x.files[1] = sheafOf([]string{"cut s 13"}) }},
		{api.ErrKind, 0, func(x *input) { x.files[1] = sheafOf([]string{"cut s 13", "none"}) }},
		{api.ErrText, 0, func(x *input) { x.files[0] = sheafOf([]string{"chapter 1"}) }},
		{api.ErrKind, 0, func(x *input) { x.files[0] = sheafOf([]string{"line sea"}) }},
		{api.ErrFiles, 2, func(x *input) { x.files[2] += "a" }},
		{api.ErrFiles, 1, func(x *input) { x.files[1] += "\n" }},
		{api.ErrFiles, 0, func(x *input) { x.files[0] = x.files[0][1:] }},
		{api.ErrFiles, 0, func(x *input) { x.files = append(x.files, "") }},
		{api.ErrFiles, 0, func(x *input) { x.files = x.files[:2] }},
		{api.ErrFiles, 0, func(x *input) { x.files = nil }},
	} {
		x := right
		x.files = slices.Clone(right.files)
		wrong.change(&x)
		wantUnpacked(t, x, wrong.e, wrong.at)
		// What is wrong before it stays, so that each one goes ahead of all those that are named behind it.
		right = x
	}
}

// P12.6: what files have by themselves.
func TestErrorsOfFiles(t *testing.T) {
	for _, x := range []struct {
		file int
		s    string
		want api.Errno
		at   int
	}{
		{0, "", api.ErrText, 0},
		{1, "", api.OK, 0},
		{2, "", api.OK, 0},
		{0, strings.Repeat("a", 30001), api.ErrFiles, 0},
		{1, strings.Repeat("a", 30001), api.ErrFiles, 1},
		{2, strings.Repeat("a", 30001), api.ErrFiles, 2},
		{2, "\n", api.ErrFiles, 2},
		{2, sheafOf(slices.Repeat([]string{"save"}, 60)), api.OK, 0},
		{2, sheafOf(slices.Repeat([]string{"save"}, 200)), api.ErrMany, 0},
		{2, sheafOf([]string{"none", "save"}), api.ErrOrder, 0},
		{2, sheafOf(append(slices.Repeat([]string{"save"}, 59), "saved")), api.ErrOrder, 59},
		{1, sheafOf([]string{"form 1 sea sea 4"}), api.ErrLexicon, 0},
		{1, sheafOf([]string{"place 1 9 0 0 sea 1"}), api.ErrLexicon, 0},
		{1, sheafOf([]string{"chapter 1"}), api.ErrKind, 0},
		{0, sheafOf([]string{"chapter 7", "line sea", "chapter 7", "line sea"}), api.ErrText, 0},
		{0, sheafOf([]string{"chapter 7", "line sea"}), api.ErrOffice, 0},
	} {
		y := yearFiles()
		y.files[x.file] = x.s
		wantUnpacked(t, y, x.want, x.at)
	}
}

// P12.15: a file that is cut off within a row is told, with its index; one that is cut off between two rows is a file.
func TestFilesThatAreCutOff(t *testing.T) {
	right := yearFiles()
	right.files[1] = sheafOf([]string{"cut s 2", "form 1 sea sea 1"})
	for index, file := range right.files {
		for n := range len(file) {
			x := right
			x.files = slices.Clone(right.files)
			x.files[index] = file[:n]
			if n > 0 && file[n-1] != '\n' {
				wantUnpacked(t, x, api.ErrFiles, index)
			} else if _, _, _, e := editor.Unpack(x.files, x.edition, x.cut, x.helpers); e == api.ErrFiles {
				t.Errorf("%q: %v", x.files, e)
			}
		}
	}
}

// P12.15: a byte that is another one is told, with the index of its file; of several files the first one is told.
func TestFilesThatAreSpoiled(t *testing.T) {
	right := yearFiles()
	right.files[1] = sheafOf([]string{"cut s 2", "form 1 sea sea 1"})
	d := dice(14)
	for index, file := range right.files {
		for n := range len(file) {
			for _, b := range []byte{0, ' ', '~', 127, 255, file[n] ^ 1, file[n] + 1, file[n] - 1, byte(d.roll(256)), byte(d.roll(256)), byte(32 + d.roll(95)), byte(32 + d.roll(95))} {
				if b == file[n] || b == '\n' || file[n] == '\n' {
					continue
				}
				x := right
				x.files = slices.Clone(right.files)
				x.files[index] = file[:n] + string([]byte{b}) + file[n+1:]
				wantUnpacked(t, x, api.ErrFiles, index)
				x.files[2] = "spoiled"
				wantUnpacked(t, x, api.ErrFiles, index)
			}
		}
	}
}

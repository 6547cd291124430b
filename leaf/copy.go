package leaf

import "postil/api"

// beginCopy returns a text at work: begin's error, and ErrCopy unless a copy of it is valid.
func beginCopy(t api.Text, c api.Copy) (text, api.Errno) {
	base, e := begin(t)
	if e != api.OK {
		return text{}, e
	}
	if !base.hasCopy(c) {
		return text{}, api.ErrCopy
	}
	return base, api.OK
}

// kind is what readings of a kind have to be like, and what they do to a line that is being read.
type kind struct {
	fits func(line []string, r api.Reading) bool
	read func(l reader, word string) reader
}

// reader is a line of a copy that is being read: the words of the base that are left, and those of the copy so far.
type reader struct{ left, done []string }

func (l reader) pass(words int) reader {
	return reader{left: l.left[words:], done: l.done}
}

func (l reader) write(words ...string) reader {
	return reader{left: l.left, done: append(l.done, words...)}
}

// kinds is the table of the kinds of readings; what is at 0 is none of them.
func kinds() [api.ReadOther + 1]kind {
	return [...]kind{
		api.ReadOmit: {
			fits: func(line []string, r api.Reading) bool {
				return isIndex(r.At.Word, len(line)) && r.Word == ""
			},
			read: func(l reader, word string) reader { return l.pass(1) },
		},
		api.ReadPut: {
			fits: func(line []string, r api.Reading) bool {
				return within(api.Span{Lo: 0, Hi: len(line)}, r.At.Word) && isWord(r.Word)
			},
			read: func(l reader, word string) reader { return l.write(word) },
		},
		api.ReadOther: {
			fits: func(line []string, r api.Reading) bool {
				return isIndex(r.At.Word, len(line)) && isWord(r.Word) && r.Word != line[r.At.Word]
			},
			read: func(l reader, word string) reader { return l.pass(1).write(word) },
		},
	}
}

// hasCopy tells whether a copy of the text is valid.
func (t text) hasCopy(c api.Copy) bool {
	if !isId(c.Id) || len(c.Readings) > api.MaxReadings || !t.fit(c.Readings) || !areInOrder(c.Readings) {
		return false
	}
	var lengths []int
	for _, line := range (text{t.read(c)}).lines() {
		lengths = append(lengths, len(line))
	}
	return isLength(lengths...)
}

// fit tells whether each of the readings, by itself, is one of the text.
func (t text) fit(l []api.Reading) bool {
	table := kinds()
	for _, r := range l {
		line := t.lineOf(r.At)
		if len(line) == 0 || !within(api.Span{Lo: api.ReadOmit, Hi: api.ReadOther}, int(r.Kind)) || !table[r.Kind].fits(line, r) {
			return false
		}
	}
	return true
}

// areInOrder tells whether the places of readings go up, and at each one none is behind a reading that does not put.
func areInOrder(l []api.Reading) bool {
	for i := 1; i < len(l); i++ {
		a, b := l[i-1], l[i]
		if a.At == b.At && a.Kind != api.ReadPut || comparePlaces(a.At, b.At) > 0 {
			return false
		}
	}
	return true
}

// read returns the text of a copy whose readings fit and are in order.
func (t text) read(c api.Copy) api.Text {
	var copied api.Text
	for _, chapter := range t.Chapters {
		copied.Chapters = append(copied.Chapters, api.Chapter{Id: chapter.Id})
	}
	for at, line := range t.lines() {
		chapter := &copied.Chapters[at.Chapter]
		chapter.Lines = append(chapter.Lines, readLine(line, ofLine(c.Readings, at)))
	}
	return copied
}

// ofLine returns the readings of the line that begins at a place.
func ofLine(l []api.Reading, at api.Place) []api.Reading {
	var of []api.Reading
	for _, r := range l {
		begins := api.Place{Chapter: r.At.Chapter, Line: r.At.Line}
		if begins == at {
			of = append(of, r)
		}
	}
	return of
}

// readLine returns what the readings of a line make of it.
func readLine(line []string, readings []api.Reading) []string {
	table := kinds()
	l := reader{left: line}
	for _, r := range readings {
		kept := len(l.left) - (len(line) - r.At.Word)
		l = l.write(l.left[:kept]...).pass(kept)
		l = table[r.Kind].read(l, r.Word)
	}
	return l.write(l.left...).done
}

// doubted returns the places of the base in which a valid copy has not its word.
func doubted(c api.Copy) []api.Place {
	var l []api.Place
	for _, r := range c.Readings {
		if r.Kind != api.ReadPut {
			l = append(l, r.At)
		}
	}
	return l
}

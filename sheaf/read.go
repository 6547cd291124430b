package sheaf

import (
	"strconv"
	"strings"

	"postil/api"
)

// wrong is the panic of a row that is not of the kind that is read.
type wrong struct{}

// form is what rows that begin with a name are like, and what they add to what is read.
type form[T any] struct {
	name string
	// opens tells whether such a row may be the first one. Behind it rows of all names may come, but for those that it ends.
	opens bool
	// ends is the names of which no row may come any more behind such a row.
	ends []string
	read func(x *T, w *words)
}

// read returns what rows are of, by the forms of their kind: ErrRows unless they are rows, ErrKind unless they are of this kind, then check's error.
func read[T any](l []string, forms []form[T], check func(x T) api.Errno) (T, api.Errno) {
	var none T
	if !areRows(l...) {
		return none, api.ErrRows
	}
	x, e := readBy(forms, l)
	if e == api.OK {
		e = check(x)
	}
	if e != api.OK {
		return none, e
	}
	return x, api.OK
}

// readBy returns what rows are of, by the forms of their kind. With ErrKind, unless they are of this kind, it is what was read up to the row that is wrong.
func readBy[T any](forms []form[T], l []string) (x T, e api.Errno) {
	defer func() {
		switch r := recover().(type) {
		case nil:
		case wrong:
			e = api.ErrKind
		default:
			// It is a fault of the program, not of a row.
			panic(r)
		}
	}()
	may := map[string]form[T]{}
	for _, f := range forms {
		if f.opens {
			may[f.name] = f
		}
	}
	for n := range len(l) {
		w := words{strings.Split(l[n], " ")}
		f, ok := may[w.next()]
		if !ok {
			panic(wrong{})
		}
		f.read(&x, &w)
		w.end()
		if f.opens {
			for _, other := range forms {
				may[other.name] = other
			}
		}
		for _, name := range f.ends {
			delete(may, name)
		}
	}
	return x, api.OK
}

// words is the words of a row that are still to be read. What is asked for, but is not there, is a panic: wrong.
type words struct{ left []string }

func (w *words) next() string {
	if len(w.left) == 0 {
		panic(wrong{})
	}
	s := w.left[0]
	w.left = w.left[1:]
	return s
}

func (w *words) end() {
	if len(w.left) > 0 {
		panic(wrong{})
	}
}

func (w *words) word() string {
	s := w.next()
	if !within(api.Span{Lo: 1, Hi: api.MaxLetters}, len(s)) || strings.Trim(s, "abcdefghijklmnopqrstuvwxyz") != "" {
		panic(wrong{})
	}
	return s
}

// all returns all words that are left, at least one.
func (w *words) all() []string {
	l := []string{w.word()}
	for len(w.left) > 0 {
		l = append(l, w.word())
	}
	return l
}

func (w *words) number() int { return w.numberTo(maxWritten) }

func (w *words) numberTo(most int) int {
	s := w.next()
	n, _ := strconv.Atoi(s)
	// Itoa writes nothing as what is no number, nor a sign or a 0 too much.
	if strconv.Itoa(n) != s || !within(api.Span{Lo: 0, Hi: most}, n) {
		panic(wrong{})
	}
	return n
}

func (w *words) place() api.Place {
	return api.Place{Chapter: w.number(), Line: w.number(), Word: w.number()}
}

func (w *words) head() api.Head {
	return api.Head{Stem: w.word(), Mark: uint8(w.numberTo(maxMark))}
}

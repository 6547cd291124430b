package sheaf_test

import (
	"slices"
	"strings"
	"testing"

	"postil/api"
	"postil/sheaf"
)

// wantCheck checks the error of Check, and that Write has it, too, if it is one.
func wantCheck(t *testing.T, l []string, want api.Errno) {
	t.Helper()
	if e := sheaf.Check(l); e != want {
		t.Errorf("%d rows, %.500q: %v, not %v", len(l), l, e, want)
	}
	if s, e := sheaf.Write(l); want != api.OK && (s != "" || e != want) {
		t.Errorf("%d rows, %.500q: %q, %v, not %v", len(l), l, s, e, want)
	}
}

// P11.1: rows have 1 to 160 bytes, from the space to the tilde, and there are at most 200 of them.
func TestCheck(t *testing.T) {
	for b := range 256 {
		want := api.ErrRows
		if b >= 32 && b <= 126 {
			want = api.OK
		}
		s := string([]byte{byte(b)})
		for _, row := range []string{s, "a" + s, s + "a", strings.Repeat("a", 159) + s} {
			wantCheck(t, rows(row), want)
		}
	}
	for n := range 400 {
		want := api.ErrRows
		if n >= 1 && n <= 160 {
			want = api.OK
		}
		wantCheck(t, rows(strings.Repeat("~", n)), want)
	}
	for _, n := range []int{0, 1, 2, 199, 200} {
		wantCheck(t, slices.Repeat(rows("a"), n), api.OK)
		wantCheck(t, slices.Repeat(rows(" "), n), api.OK)
		for _, row := range noRows {
			for at := range n {
				l := slices.Repeat(rows("a"), n)
				l[at] = row
				wantCheck(t, l, api.ErrRows)
			}
		}
	}
	for _, n := range []int{201, 202, 400, 1000000} {
		wantCheck(t, slices.Repeat(rows("a"), n), api.ErrRows)
	}
}

// P11.1: the check of each row, and its bytes.
func TestWrite(t *testing.T) {
	all := ""
	for b := ' '; b <= '~'; b++ {
		all += string(b)
	}
	for _, l := range [][]string{nil, {}, {"ab", "b"}, {"a"}, {" "}, {"  ", " a "}, {"~", "~", "~"}, {all, all}, {strings.Repeat("~", 160)}, slices.Repeat(rows("same"), 200), numbered(200), {"ab sg", "ab sg"}} {
		s, e := sheaf.Write(l)
		wantOne(t, l, s, e, bytesOf(l...))
	}
	d := dice(1)
	for range 300 {
		var l []string
		for range d.roll(20) {
			row := ""
			for range 1 + d.roll(one(&d, 5, 160)) {
				row += string(rune(32 + d.roll(95)))
			}
			l = append(l, row)
		}
		s, e := sheaf.Write(l)
		wantOne(t, l, s, e, bytesOf(l...))
	}
}

// P11.1: a check with an index, by its number.
func TestNumbersOfChecks(t *testing.T) {
	for _, x := range []struct {
		l    []string
		want string
	}{
		// 31 times 5 and 97 are 252; with the index 1 it begins with 22, so that it is 779, or 103.
		{rows("a", "a"), "a js\na dz\n"},
		// 31 times 5 and 126 are 281; 31 times 281 and 126 are 8,837, or 49.
		{rows("~~"), "~~ bx\n"},
		{rows(" "), "  hf\n"},
	} {
		s, e := sheaf.Write(x.l)
		wantOne(t, x.l, s, e, x.want)
	}
}

// filled is 200 rows of so many bytes, with those of their checks.
func filled(bytes int) []string {
	l := slices.Repeat(rows(strings.Repeat("a", bytes/200-4)), 200)
	for i := range bytes % 200 {
		l[i] += "a"
	}
	return l
}

// P11.1, P11.2: ErrFull if there are more than 30,000 bytes.
func TestFull(t *testing.T) {
	for _, bytes := range []int{29999, 30000} {
		s, e := sheaf.Write(filled(bytes))
		wantOne(t, bytes, s, e, bytesOf(filled(bytes)...))
		wantOne(t, bytes, len(s), e, bytes)
		l, n, e := sheaf.Read(s)
		wantList(t, bytes, l, e, filled(bytes)...)
		wantOne(t, bytes, n, e, bytes)
		// Bytes that are no rows count, too.
		l, n, e = sheaf.Read((s + "\n\n")[:30000])
		wantList(t, bytes, l, e, filled(bytes)...)
		wantOne(t, bytes, n, e, bytes)
	}
	for _, bytes := range []int{30001, 30002, 32800} {
		if s, e := sheaf.Write(filled(bytes)); s != "" || e != api.ErrFull {
			t.Errorf("%d: %d, %v", bytes, len(s), e)
		}
	}
	whole := bytesOf("ab", "b")
	for _, s := range []string{bytesOf(filled(30001)...), whole + strings.Repeat("a", 30001-len(whole)), whole + strings.Repeat("\n", 30000), strings.Repeat("\xff", 30001), strings.Repeat("a", 10000000)} {
		if l, n, e := sheaf.Read(s); len(l) != 0 || n != 0 || e != api.ErrFull {
			t.Errorf("%d bytes: %q, %d, %v", len(s), l, n, e)
		}
	}
	// The error of rows is ahead of it.
	wantCheck(t, append(filled(32800)[1:], "\n"), api.ErrRows)
	wantCheck(t, append(filled(32800), "a"), api.ErrRows)
}

// wantRead checks what is read of bytes.
func wantRead(t *testing.T, s string, want ...string) {
	t.Helper()
	l, bytes, e := sheaf.Read(s)
	if !slices.Equal(l, want) || bytes != len(bytesOf(want...)) || e != api.OK {
		t.Errorf("%.2000q: %q, %d, %v, not %q", s, l, bytes, e, want)
	}
}

// P11.2: what is read ends before the first row that is none.
func TestReadUpToWhatIsNone(t *testing.T) {
	for _, x := range []struct {
		s    string
		want []string
	}{
		{"", nil},
		{"\n", nil},
		{"\n\n\n", nil},
		{" sg\n", nil},
		{"ab", nil},
		{"ab sg", nil},
		{"ab sg\n", rows("ab")},
		{"ab sg\r\n", nil},
		{"ab\tsg\n", nil},
		{"absg\n", nil},
		{"ab  sg\n", nil},
		{"ab sg \n", nil},
		{"ab SG\n", nil},
		{"ab sg\nb ea\n\n", rows("ab", "b")},
		{"ab sg\n\nb ea\n", rows("ab")},
		{"ab sg\nab sg\n", rows("ab")},
		{"b ea\nab sg\n", nil},
		{"ab sg\nb ea\nsomething", rows("ab", "b")},
		{"ab sg\nb ea\nsomething\n" + bytesOf("ab", "b"), rows("ab", "b")},
		{"\xff\n", nil},
	} {
		wantRead(t, x.s, x.want...)
	}
	// The check of what is no row makes it none; nor does one of a row too many.
	for _, row := range noRows {
		if len(row) > 1000 {
			continue
		}
		wantRead(t, bytesOf(row))
		wantRead(t, bytesOf("ab", row, "b"), "ab")
	}
	for _, n := range []int{200, 201, 400} {
		wantRead(t, bytesOf(numbered(n)...), numbered(200)...)
	}
	// Only the tilde and the space are rows of the bytes beside them.
	wantRead(t, bytesOf(" ", "~", "\x7f"), " ", "~")
	wantRead(t, bytesOf(" ", "~", "\x1f"), " ", "~")
	wantRead(t, bytesOf(strings.Repeat("z", 160), strings.Repeat("z", 161)), strings.Repeat("z", 160))
}

// P11.2: bytes are read as far as any beginning of them is the bytes of rows.
func TestReadOfSpoiledBytes(t *testing.T) {
	d := dice(2)
	read, all := 0, 0
	for range 3000 {
		l := d.few(6)
		if d.roll(20) == 0 {
			l = numbered(198 + d.roll(5))
		}
		s := []byte(bytesOf(l...))
		for range d.roll(3) {
			if len(s) == 0 {
				break
			}
			at := d.roll(len(s))
			switch d.roll(4) {
			case 0:
				s[at] = one(&d, '\n', ' ', 'a', 'b', 'z', byte(d.roll(256)))
			case 1:
				s = slices.Delete(s, at, min(at+1+d.roll(6), len(s)))
			case 2:
				s = slices.Insert(s, at, one(&d, '\n', ' ', 'a', byte(d.roll(256))))
			case 3:
				s = append(s, s[at:]...)
			}
		}
		want, bytes := readOf(string(s))
		wantRead(t, string(s), want...)
		read, all = read+bytes, all+len(s)
	}
	if read < 10000 || all-read < 10000 {
		t.Error(read, all)
	}
}

// files is rows of several files, and of all kinds.
func files() [][]string {
	return [][]string{{"ab", "b"}, {"a", "a", "a"}, {" ", "  ", "   "}, numbered(30), rowsOf(sample()), rowsOf(cold()), rowsOf(three()), rowsOf(decided()), {strings.Repeat("z~", 80), "a", strings.Repeat(" ", 160)}, filled(30000)}
}

// P11.9: what is read is what was written.
func TestReadOfWrite(t *testing.T) {
	for _, l := range append(files(), nil, numbered(200)) {
		s, e := sheaf.Write(l)
		read, bytes, f := sheaf.Read(s)
		wantList(t, l, read, max(e, f), l...)
		wantOne(t, l, bytes, f, len(s))
	}
	// And what is written again is what was read.
	s := bytesOf("ab", "b", "c") + "more"
	l, bytes, e := sheaf.Read(s)
	again, f := sheaf.Write(l)
	wantOne(t, s, again, max(e, f), s[:bytes])
}

// P11.9: bytes that are cut off anywhere are read up to the last row that is whole.
func TestCutOff(t *testing.T) {
	for _, l := range files() {
		s, _ := sheaf.Write(l)
		whole := 0
		for n := range len(s) + 1 {
			if n > 0 && s[n-1] == '\n' {
				whole++
			}
			// Of many bytes not all ends are tried.
			if n < 1000 || n%71 == 0 || n == len(s) {
				wantRead(t, s[:n], l[:whole]...)
			}
		}
	}
}

// P11.10: a byte of a row that is any other one, or two neighbours that are exchanged, are found.
func TestSpoiledRows(t *testing.T) {
	for _, l := range files()[:9] {
		s, _ := sheaf.Write(l)
		for n, row := range l {
			begin := len(bytesOf(l[:n]...))
			for i := range len(row) {
				for b := byte(' '); b <= '~'; b++ {
					if b != row[i] {
						wantRead(t, s[:begin+i]+string(b)+s[begin+i+1:], l[:n]...)
					}
				}
				if i > 0 && row[i-1] != row[i] {
					wantRead(t, s[:begin+i-1]+string(row[i])+string(row[i-1])+s[begin+i+1:], l[:n]...)
				}
			}
		}
	}
}

// P11.10: neighbours of all bytes there are, that are exchanged.
func TestExchangedNeighbours(t *testing.T) {
	for a := ' '; a <= '~'; a++ {
		for b := ' '; b <= '~'; b++ {
			s, _ := sheaf.Write(rows("ab", "x"+string(a)+string(b)+"y"))
			exchanged := s[:len("ab sg\nx")] + string(b) + string(a) + s[len("ab sg\nxab"):]
			if a == b {
				wantRead(t, exchanged, "ab", "x"+string(a)+string(b)+"y")
				continue
			}
			wantRead(t, exchanged, "ab")
		}
	}
}

// P11.10: a row that is left out, or there twice, is found, as what is behind it is not at its place.
func TestRowsLeftOutAndTwice(t *testing.T) {
	for _, l := range append(files(), slices.Repeat(rows("a"), 200), numbered(200)) {
		s, _ := sheaf.Write(l)
		lines := slices.Collect(strings.Lines(s))
		for n := range lines {
			for to := n + 1; to <= min(n+3, len(lines)); to++ {
				wantRead(t, strings.Join(slices.Delete(slices.Clone(lines), n, to), ""), l[:n]...)
			}
			// It counts the first time, but not again.
			for at := n + 1; at <= min(n+3, len(lines)); at++ {
				twice := strings.Join(slices.Insert(slices.Clone(lines), at, lines[n]), "")
				if len(twice) <= api.MaxBytes {
					wantRead(t, twice, l[:at]...)
				}
			}
		}
	}
}

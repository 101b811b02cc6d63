package book_test

import (
	"fmt"
	"slices"
	"strings"
	"testing"

	"tithing/api"
	"tithing/book"
)

// P12.6: the chapter's example, and other records whose checks are worked out by hand.
func TestWrite(t *testing.T) {
	for _, x := range []struct {
		l    []string
		want string
	}{
		{lines("a"), "{001;00322}a\n"}, // 31 and 3 times 97
		{nil, ""},
		{lines(""), "{000;00031}\n"},
		{lines("", ""), "{000;00031}\n{000;00062}\n"},
		{lines("a", "bc"), "{001;00322}a\n{002;00752}bc\n"},               // 62, 3 times 98 and 4 times 99
		{lines("publish"), "{007;04564}publish\n"},                        // 31, 3 times 112, 4 times 117, 5 times 98, 6 times 108, 7 times 105, 8 times 115, 9 times 104
		{lines("\n", "\x00\xff"), "{001;00061}\n\n{002;01082}\x00\xff\n"}, // 31 and 3 times 10; 62 and 4 times 255
		{lines(strings.Repeat("\x00", 200)), "{200;00031}" + strings.Repeat("\x00", 200) + "\n"},
		{lines(strings.Repeat("\x01", 200)), "{200;20531}" + strings.Repeat("\x01", 200) + "\n"}, // 31 and the sum from 3 to 202, which is 20500
		{lines(strings.Repeat("\x05", 200)), "{200;02560}" + strings.Repeat("\x05", 200) + "\n"}, // 102531 less 99971
		{lines(strings.Repeat("\xff", 200)), "{200;29039}" + strings.Repeat("\xff", 200) + "\n"}, // 5227531 less 52 times 99971
		{lines("{001;00322}a\n"), recordOf(0, "{001;00322}a\n")},
	} {
		if b, e := book.Write(x.l); string(b) != x.want || e != api.OK {
			t.Errorf("Write of %q: %q, %v", x.l, b, e)
		}
		if l, n := book.Recover([]byte(x.want)); !slices.Equal(l, x.l) || n != len(x.want) {
			t.Errorf("Recover of %q: %q, %d", x.want, l, n)
		}
	}
}

// anyLine makes a line of any bytes.
func (d *dice) anyLine() string {
	b := make([]byte, d.of(0, 1, 2, 9, 10, 99, 100, 199, 200, d.upTo(200)))
	for i := range b {
		b[i] = byte(d.of(d.upTo(255), '{', '}', ';', '\n', '0', d.from('0', '9')))
	}
	return string(b)
}

// anyLines makes lines of any bytes, and some that can be accepted.
func (d *dice) anyLines(most int) []string {
	var l []string
	for range d.of(d.upTo(most), d.upTo(most), most) {
		if d.upTo(1) == 0 {
			l = append(l, d.anyLine())
		} else {
			l = append(l, d.line(d.word(), d.upTo(5)))
		}
	}
	return l
}

// P12.6, P12.14: files of any lines.
func TestFiles(t *testing.T) {
	d := dice(2)
	for range 400 {
		l := d.anyLines(50)
		b := write(t, l)
		if string(b) != fileOf(l) {
			t.Fatalf("Write of %q: %q", l, b)
		}
		for _, more := range []string{"", "{", "{0", d.anyLine()} {
			got, n := book.Recover(append(slices.Clone(b), more...))
			if !slices.Equal(got, l) || n != len(b) {
				t.Fatalf("Recover of the file of %q, and %q: %q, %d", l, more, got, n)
			}
		}
	}
}

// P12.6: what is no record, though it looks like one.
func TestNoRecords(t *testing.T) {
	const first, second = "{001;00322}a\n", "{001;00353}a\n"
	for _, wrong := range lines(
		"{", "a", "\n", "{}", "{;}", "{001;00062}", "{001;00353}a", "{001;00353}a ", "{001;00353}a\r\n", "{001;00353}\n", "{001;00353}aa\n", "{002;00353}a\n", "{000;00353}a\n", "{000;00353}\n", "{01;00353}a\n", "{1;353}a\n", "{0001;00353}a\n", "{001;000353}a\n", "{001;0353}a\n", "{001;353}a\n",
		"{001;00354}a\n", "{001;00352}a\n", "{001;00322}a\n", "{001;00353}b\n", "{001;00353}A\n", "[001;00353}a\n", "(001;00353)a\n", "{001;00353]a\n", "{001:00353}a\n", "{001,00353}a\n", "{001 00353}a\n", " {001;00353}a\n", "{ 01;00353}a\n", "{  1;00353}a\n", "{+01;00353}a\n", "{-01;00353}a\n", "{-00;00062}\n", "{001;+0353}a\n", "{001; 0353}a\n", "{001;  353}a\n", "{001;a0353}a\n", "{00a;00353}a\n", "{0x1;00353}a\n", "{0_1;00353}a\n", "{001;00_53}a\n", "{001;99999}a\n", "{999;00353}a\n", "{---;00353}a\n", "{001;00353}a\x00\n", "{001;00353}\na", "\n{001;00353}a\n", "{001;00353}a{001;00353}a\n", "{\xd9\xa11;00353}a\n",
	) {
		for _, more := range lines("", "\n", recordOf(1, "b"), recordOf(2, "b"), strings.Repeat("\n", 1000)) {
			b := []byte(first + wrong + more)
			if strings.HasPrefix(wrong+more, second) {
				continue // a record after all
			}
			if l, n := book.Recover(b); !slices.Equal(l, lines("a")) || n != len(first) {
				t.Errorf("Recover of %q: %q, %d", b, l, n)
			}
			if f, e := book.Resume(b, lines("hide 0 0")); string(f) != first+recordOf(1, "hide 0 0") || e != api.OK {
				t.Errorf("Resume of %q: %q, %v", b, f, e)
			}
		}
	}
	if l, n := book.Recover([]byte(first + second)); !slices.Equal(l, lines("a", "a")) || n != 26 {
		t.Errorf("Recover: %q, %d", l, n)
	}
}

// P12.6: a line has at most 200 bytes, also in a file.
func TestLongRecords(t *testing.T) {
	for _, long := range list(199, 200, 201, 202, 256, 500, 999) {
		for _, c := range lines("a", "\x00", "\n") {
			line := strings.Repeat(c, long)
			b := fileOf(lines(line, "b"))
			want, bytes := lines(line, "b"), len(b)
			if long > 200 {
				want, bytes = nil, 0
			}
			if l, n := book.Recover([]byte(b)); !slices.Equal(l, want) || n != bytes {
				t.Errorf("Recover of a line of %d bytes: %q, %d", long, l, n)
			}
			b = fileOf(lines("x", line, "b"))
			if l, n := book.Recover([]byte(b)); long > 200 && (!slices.Equal(l, lines("x")) || n != len(recordOf(0, "x"))) {
				t.Errorf("Recover of a second line of %d bytes: %q, %d", long, l, n)
			}
		}
	}
}

// P12.6: a session has at most 50 lines, also in a file.
func TestManyRecords(t *testing.T) {
	for _, many := range list(49, 50, 51, 52, 100) {
		l := times(many, "hide 0 0")
		b := []byte(fileOf(l))
		read := min(many, 50)
		if got, n := book.Recover(b); !slices.Equal(got, l[:read]) || n != len(fileOf(l[:read])) {
			t.Errorf("Recover of %d records: %d, %d", many, len(got), n)
		}
		f, e := book.Resume(b, lines("hide 0 0", "x"))
		if string(f) != fileOf(l[:read]) || e != api.OK {
			t.Errorf("Resume of %d records: %q, %v", many, f, e)
		}
		f, e = book.Resume(b, lines("show 0 0"))
		if want := fileOf(append(l[:read:read], "show 0 0")); read < 50 && (string(f) != want || e != api.OK) || read == 50 && (f != nil || e != api.ErrLimit) {
			t.Errorf("Resume of %d records: %q, %v", many, f, e)
		}
	}
}

// P12.6: each byte of a file counts.
func TestEveryByte(t *testing.T) {
	l := lines("hide 0 0", "", "age 0 \n1")
	b := write(t, l)
	var ends []int
	for i := range l {
		ends = append(ends, len(fileOf(l[:i+1])))
	}
	for i, was := range b {
		// The records before that of the byte.
		whole := slices.IndexFunc(ends, func(end int) bool { return i < end })
		for c := range 256 {
			if byte(c) == was {
				continue
			}
			b[i] = byte(c)
			if got, n := book.Recover(b); !slices.Equal(got, l[:whole]) || n != len(fileOf(l[:whole])) {
				t.Errorf("Recover of %q: %q, %d", b, got, n)
			}
		}
		b[i] = was
	}
}

// P12.7: files that are resumed, with lines that are accepted or refused.
func TestResume(t *testing.T) {
	for _, x := range []struct {
		old, more, want []string
	}{
		{nil, nil, nil},
		{nil, lines("hide 0 0", "hide 0 0", "x", "hide 0 1"), lines("hide 0 0", "hide 0 1")},
		{lines("hide 0 0"), lines("hide 0 0", "hide 0 1"), lines("hide 0 0", "hide 0 1")},
		{lines("hide 0 0"), lines("show 0 0", "hide 0 0"), lines("hide 0 0", "show 0 0", "hide 0 0")},
		{lines("x", "hide 0 0", "hide 0 0"), lines("x", "hide 0 0", "show 0 0"), lines("x", "hide 0 0", "hide 0 0", "show 0 0")},
		{lines("drop 0", ""), lines("drop 0", ""), lines("drop 0", "")},
		{lines("entry 0 0 5 30 34"), lines("number 1 1", "entry 1 1 5 30 34", "entry 1 0 5 30 34"), lines("entry 0 0 5 30 34", "number 1 1", "entry 1 0 5 30 34")},
		{example(), lines("same 0 2", "apart 1 0", "drop 3", "number 2 4", "drop 3"), example("number 2 4", "drop 3")},
		{example("same 0 2", "apart 1 0"), lines("ask 0 0 0 1", "publish", "rule 2 3 0"), example("same 0 2", "apart 1 0", "ask 0 0 0 1", "rule 2 3 0")},
		{times(49, "x"), append(times(49, "x"), "publish"), append(times(49, "x"), "publish")},
		{times(50, "x"), times(50, "x"), times(50, "x")},
		{nil, times(50, "publish"), times(50, "publish")},
	} {
		f, e := book.Resume(write(t, x.old), x.more)
		if string(f) != fileOf(x.want) || e != api.OK {
			t.Errorf("Resume of %q, %q: %q, %v", x.old, x.more, f, e)
		}
	}
	for _, x := range []struct{ old, more []string }{
		{times(50, "x"), lines("publish")}, {times(50, "publish"), append(times(49, "x"), "publish")}, {times(49, "x"), times(2, "publish")}, {lines("x"), times(50, "publish")}, {times(25, "x"), times(26, "publish")},
	} {
		if f, e := book.Resume(write(t, x.old), x.more); f != nil || e != api.ErrLimit {
			t.Errorf("Resume of %d and %d lines: %q, %v", len(x.old), len(x.more), f, e)
		}
	}
}

// P12.7: TestResumeByDefinition resumes files that are cut off or spoilt.
func TestResumeByDefinition(t *testing.T) {
	limits, kept, refused := 0, 0, 0
	forSessions(t, 1500, 50, func(t *testing.T, d *dice, l []string) {
		b := []byte(fileOf(l))
		more := d.session(d.of(5, 20, 50))
		whole := len(l)
		if d.upTo(1) == 0 && len(b) > 0 {
			i := d.upTo(len(b) - 1)
			b = slices.Concat(b[:i], []byte{b[i] ^ byte(d.from(1, 255))}, b[i+1:])
			for whole = 0; len(fileOf(l[:whole+1])) <= i; whole++ {
			}
		}
		p, want := newPlayer(), slices.Clone(l[:whole])
		for _, line := range l[:whole] {
			if p.execute(line) != api.OK {
				kept++
			}
		}
		for _, line := range more {
			if p.execute(line) == api.OK {
				want = append(want, line)
			} else {
				refused++
			}
		}
		f, e := book.Resume(b, more)
		if len(want) > 50 {
			limits++
			if f != nil || e != api.ErrLimit {
				t.Errorf("Resume of %q, %q: %q, %v", b, more, f, e)
			}
		} else if string(f) != fileOf(want) || e != api.OK {
			t.Errorf("Resume of %q, %q: %q, %v, not the file of %q", b, more, f, e, want)
		}
	})
	if limits < 50 || kept < 1000 || refused < 1000 {
		t.Errorf("only %d sessions are too long, %d refused lines are kept, and %d are not", limits, kept, refused)
	}
}

// P12.6: checks from the smallest to the greatest ones.
func TestChecks(t *testing.T) {
	zero, most := false, false
	for n := range 60000 {
		line := fmt.Sprintf("%c%c\x00\xff%d", n%251, n%256, n*n)
		line += strings.Repeat("\xfe", n%150)
		record := recordOf(0, line)
		zero = zero || strings.HasPrefix(record[5:], "0000")
		most = most || strings.HasPrefix(record[5:], "9997")
		if b, e := book.Write(lines(line)); string(b) != record || e != api.OK {
			t.Fatalf("Write of %q: %q, %v", line, b, e)
		}
	}
	if !zero || !most {
		t.Error("no check near 0, or none near 99971")
	}
}

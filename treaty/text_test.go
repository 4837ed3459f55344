package treaty_test

import (
	"math/rand"
	"strings"
	"testing"

	"tontine/api"
	"tontine/treaty"
)

// 13.3: what Text writes.
func TestText(t *testing.T) {
	for _, c := range []struct {
		l    []treaty.Line
		want string
	}{
		{nil, ""},
		{[]treaty.Line{cede(t, "30%", "a")}, "cede 3/10 to a\n"},
		{[]treaty.Line{cede(t, "0", "a"), cede(t, "1.0", "b-2")}, "cede 0 to a\ncede 1 to b-2\n"},
		{[]treaty.Line{surplus(100, 4, "d")}, "surplus 100 times 4 to d\n"},
		{[]treaty.Line{surplus(100, 0, "d")}, "surplus 100 times 0 to d\n"},
		{[]treaty.Line{excess(50, 100, 0, 0, "c")}, "excess 50 limit 100 to c\n"},
		{[]treaty.Line{excess(0, 1, 1, 0, "c")}, "excess 0 limit 1 again 1 at 0 to c\n"},
		{[]treaty.Line{excess(50, 100, 2, 10, "c"), stop(0, 0, "e")}, "excess 50 limit 100 again 2 at 10 to c\nstop 0 limit 0 to e\n"},
		{[]treaty.Line{excess(mostMoney, mostMoney, mostTimes, mostMoney, "c")}, "excess 1000000000000 limit 1000000000000 again 100 at 1000000000000 to c\n"},
	} {
		text, err := treaty.Text(c.l)
		if err != nil || text != c.want {
			t.Errorf("%q, %v, not %q", text, err, c.want)
		}
	}
}

// 13.3: an excess with a price that is never had again has no text; what Check says is said ahead of it.
func TestTextPrice(t *testing.T) {
	priced := excess(1, 1, 0, 1, "a")
	text, err := treaty.Text([]treaty.Line{cede(t, "1", "a"), priced})
	wantError(t, "a price", err, api.ErrArg, text)
	text, err = treaty.Text([]treaty.Line{priced, cede(t, "1", "A")})
	wantError(t, "a price ahead of no name", err, api.ErrName, text)
	text, err = treaty.Text([]treaty.Line{priced, stop(1, 1, "a"), priced})
	wantError(t, "a price ahead of no order", err, api.ErrOrder, text)
}

// reads fails unless a text is read so.
func reads(t *testing.T, text string, l ...treaty.Line) {
	t.Helper()
	got, err := treaty.Parse(text)
	if err != nil {
		t.Errorf("%.200q: %v", text, err)
	}
	if written(got) != written(l) {
		t.Errorf("%.200q: %s, not %s", text, written(got), written(l))
	}
}

// 13.3: texts that are read.
func TestParse(t *testing.T) {
	third := cede(t, "1/3", "a")
	reads(t, "")
	reads(t, " ")
	reads(t, "\n")
	reads(t, " \n\n   \n")
	reads(t, "cede 1/3 to a", third)
	reads(t, "cede 1/3 to a\n", third)
	reads(t, "\n\n  cede   1/3 to  a  \n \n", third)
	reads(t, "cede 030% to a", cede(t, "3/10", "a"))
	reads(t, "cede 0.25 to a\ncede -0 to to", cede(t, "1/4", "a"), cede(t, "0", "to"))
	reads(t, "surplus 100 times 4 to d\nsurplus 1 times 0 to d", surplus(100, 4, "d"), surplus(1, 0, "d"))
	reads(t, "excess 50 limit 100 to c\nstop 5 limit 9 to b\nstop 0 limit 0 to limit", excess(50, 100, 0, 0, "c"), stop(5, 9, "b"), stop(0, 0, "limit"))
	reads(t, "excess 50 limit 100 again 2 at 10 to c", excess(50, 100, 2, 10, "c"))
	reads(t, "excess 0 limit 1 again 1 at 0 to again", excess(0, 1, 1, 0, "again"))
	reads(t, strings.Repeat(" ", api.MaxText-13)+"cede 1/3 to a", third)
	reads(t, strings.Repeat("\n", api.MaxText-13)+"cede 1/3 to a", third)
	reads(t, strings.Repeat("\n", api.MaxText))
}

// 13.3: what is written is read again as it was.
func TestReadAgain(t *testing.T) {
	r := rand.New(rand.NewSource(14))
	treaties := goodTreaties(t)
	for range 500 {
		treaties = append(treaties, drawnTreaty(r, 1+r.Intn(mostMoney/3)))
	}
	for _, l := range treaties {
		text, err := treaty.Text(l)
		if err != nil {
			t.Fatal(err)
		}
		reads(t, text, l...)
		again, _ := treaty.Parse(text)
		if twice, err := treaty.Text(again); err != nil || twice != text {
			t.Errorf("%q is written again as %q, %v", text, twice, err)
		}
	}
}

// 13.3: an error of a line is at the line's first byte, wherever in it something is amiss.
func TestParseLines(t *testing.T) {
	digits := strings.Repeat("1", api.MaxDigits+1)
	for _, c := range []struct {
		line string
		e    api.Errno
	}{
		{"x", api.ErrForm},
		{"cede", api.ErrForm},
		{"give 1 to a", api.ErrForm},
		{"Cede 1 to a", api.ErrForm},
		{"CEDE SHARE to NAME", api.ErrForm},
		{"cede\t1 to a", api.ErrForm},
		{"\tcede 1 to a", api.ErrForm},
		{"cede \t1 to a", api.ErrForm},
		{"\t", api.ErrForm},
		{"\r", api.ErrForm},
		{"cede\u00a01 to a", api.ErrForm},
		{"cede 1 to a\r", api.ErrName},
		{"cede 1 to\x00 a", api.ErrForm},
		{"cede 1 to", api.ErrForm},
		{"cede 1 to a b", api.ErrForm},
		{"cede 1/2/3 to a", api.ErrForm},
		{"cede x to a", api.ErrForm},
		{"cede 1 into a", api.ErrForm},
		{"cede 1 to A", api.ErrName},
		{"cede 1 to aaaaaaaaaaaaaaaaaaaaa", api.ErrName},
		{"cede 1/0 to a", api.ErrZero},
		{"cede " + digits + " to a", api.ErrLimit},
		{"cede 1/" + digits + " to A", api.ErrLimit},
		{"cede 3/2 to a", api.ErrArg},
		{"cede 3/2 to A", api.ErrName},
		{"cede -1 to a", api.ErrArg},
		{"surplus 100 times 4", api.ErrForm},
		{"surplus 0100 times 4 to d", api.ErrForm},
		{"surplus 100 times +4 to d", api.ErrForm},
		{"surplus 100 times -0 to d", api.ErrForm},
		{"surplus 100 times 00 to d", api.ErrForm},
		{"surplus 100 times 4 for d", api.ErrForm},
		{"surplus 100 limit 4 to d", api.ErrForm},
		{"surplus 1_0 times 4 to d", api.ErrForm},
		{"surplus 1.0 times 4 to d", api.ErrForm},
		{"surplus 0x1 times 4 to d", api.ErrForm},
		{"surplus 9223372036854775808 times 4 to d", api.ErrForm},
		{"surplus -9223372036854775809 times 4 to d", api.ErrForm},
		{"surplus 9223372036854775807 times 4 to d", api.ErrRange},
		{"surplus -9223372036854775808 times 4 to d", api.ErrRange},
		{"surplus 1000000000001 times 4 to d", api.ErrRange},
		{"surplus -1 times 4 to d", api.ErrRange},
		{"surplus -1 times 4 to D", api.ErrName},
		{"surplus 1 times 101 to d", api.ErrRange},
		{"surplus 0 times 4 to d", api.ErrArg},
		{"excess 50 limit 100", api.ErrForm},
		{"excess 50 limit 100 again 2 to c", api.ErrForm},
		{"excess 50 limit 100 again 2 at 10 to", api.ErrForm},
		{"excess 50 limit 100 anew 2 at 10 to c", api.ErrForm},
		{"excess 50 limit 100 again 2 for 10 to c", api.ErrForm},
		{"excess 50 limit 100 again x at 10 to c", api.ErrForm},
		{"excess 50 limit 100 again 2 at x to c", api.ErrForm},
		{"excess x limit 100 to c", api.ErrForm},
		{"excess 50 limit x to c", api.ErrForm},
		{"excess 50 times 100 to c", api.ErrForm},
		{"excess 50 limit 100 at c", api.ErrForm},
		{"excess 50 limit 100 again 0 at 10 to c", api.ErrArg},
		{"excess 50 limit 100 again 0 at 10 to C", api.ErrArg},
		{"excess -1 limit 100 again 0 at -1 to C", api.ErrArg},
		{"excess 50 limit 100 again -1 at 10 to c", api.ErrRange},
		{"excess 50 limit 100 again 101 at 10 to c", api.ErrRange},
		{"excess 50 limit 100 again 1 at 1000000000001 to c", api.ErrRange},
		{"excess -1 limit 100 to c", api.ErrRange},
		{"excess 50 limit 0 to c", api.ErrArg},
		{"stop 1 limit 2 into e", api.ErrForm},
		{"stop 1 limit 2", api.ErrForm},
		{"stop 1 limit 2 again 2 at 10 to c", api.ErrForm},
		{"stop 1 limit -2 to e", api.ErrRange},
		{"stop 1 limit 2 to E", api.ErrName},
	} {
		for _, ahead := range []string{"", "\n", "\n  \n\n", "cede 1/3 to a\n", " surplus 1 times 1 to b \ncede 1 to a\n", "stop 1 limit 1 to a\n"} {
			for _, blanks := range []string{"", "   "} {
				for _, behind := range []string{"", " ", "\n", "\ngive", "\ncede 1 to a\n"} {
					text := ahead + blanks + c.line + behind
					l, err := treaty.Parse(text)
					wantAt(t, text, err, c.e, len(ahead), l)
				}
			}
		}
	}
}

// 13.3: how many words there are is asked first; then each word, from the left, wholly.
func TestParseWords(t *testing.T) {
	for _, c := range []struct {
		line string
		e    api.Errno
	}{
		{"cede 1/0 to", api.ErrForm},
		{"cede 1/0 to a b", api.ErrForm},
		{"cede 1/0 into a", api.ErrZero},
		{"cede 2 into a", api.ErrForm},
		{"excess 1 limit 2 again 0 to c", api.ErrForm},
		{"excess 1 limit 2 again 0 at x to c", api.ErrArg},
		{"excess x limit 2 again 0 at 1 to c", api.ErrForm},
		{"excess -1 limit 2 again 1 at x to c", api.ErrForm},
	} {
		l, err := treaty.Parse(c.line)
		wantAt(t, c.line, err, c.e, 0, l)
	}
}

// 13.3: what Check says of all comes behind the errors of all lines, without a place.
func TestParseAll(t *testing.T) {
	few := strings.Repeat("cede 1 to a\n", api.MaxRows)
	if l, err := treaty.Parse("\n" + few + "\n"); err != nil || len(l) != api.MaxRows {
		t.Errorf("%d lines, %v", len(l), err)
	}
	l, err := treaty.Parse(few + "cede 1 to a")
	wantError(t, "a line too many", err, api.ErrLimit, l)
	l, err = treaty.Parse(few + "cede 1 to a\ncede x to a")
	wantAt(t, "a line too many, ahead of an error", err, api.ErrForm, len(few)+12, l)
	l, err = treaty.Parse("stop 1 limit 2 to e\ncede 1 to a")
	wantError(t, "behind a stop", err, api.ErrOrder, l)
	l, err = treaty.Parse("stop 1 limit 2 to e\ncede 1 to a\ncede 1 to A")
	wantAt(t, "behind a stop, ahead of an error", err, api.ErrName, 32, l)
	l, err = treaty.Parse("stop 1 limit 2 to e\n" + few)
	wantError(t, "behind a stop, and a line too many", err, api.ErrLimit, l)
}

// 13.3: a text that is too long is not read.
func TestParseLong(t *testing.T) {
	for _, text := range []string{strings.Repeat(" ", api.MaxText+1), strings.Repeat("x", api.MaxText+1), strings.Repeat("cede 1 to a\n", 5000)} {
		l, err := treaty.Parse(text)
		wantError(t, "a long text", err, api.ErrLimit, l)
	}
	l, err := treaty.Parse(strings.Repeat("x", api.MaxText))
	wantAt(t, "a long word", err, api.ErrForm, 0, l)
	l, err = treaty.Parse(strings.Repeat("x ", api.MaxText/2))
	wantAt(t, "many words", err, api.ErrForm, 0, l)
}

// 13.3: whatever the bytes are, a text is read or told to be amiss at a line; what is read may be, and is written.
func TestParseAny(t *testing.T) {
	r := rand.New(rand.NewSource(15))
	pieces := []string{"cede", "surplus", "excess", "stop", "limit", "times", "again", "at", "to", "a", "A", "0", "1", "-1", "1/2", "1/0", "100", " ", " ", " ", "\n", "\n", "\t", "\xff", "é"}
	for range 20000 {
		text := ""
		for range r.Intn(30) {
			text += pieces[r.Intn(len(pieces))]
			if r.Intn(4) > 0 {
				text += " "
			}
		}
		l, err := treaty.Parse(text)
		if err != nil {
			wantAnyError(t, text, l, err)
			continue
		}
		written, err := treaty.Text(l)
		if err != nil {
			t.Fatalf("%q is read, but %v", text, err)
		}
		reads(t, written, l...)
	}
}

// wantAnyError fails unless an error is at the beginning of a line, or of all.
func wantAnyError(t *testing.T, text string, l []treaty.Line, err error) {
	t.Helper()
	wantZero(t, text, l)
	at, ok := err.(*api.At)
	if !ok {
		if err != api.ErrOrder {
			t.Fatalf("%q: %v", text, err)
		}
		return
	}
	if at.Place < 0 || at.Place > len(text) || at.Place > 0 && text[at.Place-1] != '\n' {
		t.Fatalf("%q: at %d", text, at.Place)
	}
}

package triangle_test

import (
	"math/rand"
	"reflect"
	"strconv"
	"strings"
	"testing"

	"tontine/api"
	"tontine/triangle"
)

// 14.5: a line for each row.
func TestText(t *testing.T) {
	for _, c := range []struct{ t, text string }{
		{"1 2 / 3", "1 2\n3\n"},
		{"0 0 / 0", "0 0\n0\n"},
		{"100 150 165 / 110 160 / 120", "100 150 165\n110 160\n120\n"},
		{"1000000000000000 0 / 7", "1000000000000000 0\n7\n"},
	} {
		text, err := triangle.Text(of(t, c.t))
		if err != nil || text != c.text {
			t.Errorf("%s: %q, %v", c.t, text, err)
		}
	}
}

// 14.5: blanks and lines without numbers say nothing.
func TestParse(t *testing.T) {
	for _, c := range []struct{ text, t string }{
		{"1 2\n3", "1 2 / 3"},
		{"1 2\n3\n", "1 2 / 3"},
		{"\n\n 1   2 \n  \n\n3  \n\n", "1 2 / 3"},
		{"0 0\n0", "0 0 / 0"},
		{"1000000000000000 5\n6", "1000000000000000 5 / 6"},
		{"3 2 1\n5 4\n9\n", "3 2 1 / 5 4 / 9"},
		{strings.Repeat(" ", api.MaxText-5) + "1 2\n3", "1 2 / 3"},
		{"1 2\n" + strings.Repeat("\n", api.MaxText-5) + "3", "1 2 / 3"},
	} {
		got, err := triangle.Parse(c.text)
		if err != nil || !reflect.DeepEqual(got, of(t, c.t)) {
			t.Errorf("%.30q: %v, %v", c.text, got, err)
		}
	}
}

// 14.5: the first word that is no number, and where it stands; ahead of what Check says.
func TestParseForm(t *testing.T) {
	for _, word := range []string{"x", "-", "+1", "-0", "00", "01", "-01", "1.5", "1/2", "1,", "1\t2", "\t", "1\r", "\xff", "é", "0x1", "1e3", "1_0", "9223372036854775808", "-9223372036854775809", strings.Repeat("1", 1000), "٣"} {
		for _, ahead := range []string{"", " ", "\n", " \n  ", "1 ", "1 2\n", "1 2\n3\n", "1 2\n3 4 ", "-1  ", "9223372036854775807 -9223372036854775808\n\n", "1\n2\n3   ", strings.Repeat("1\n", mostRows+1)} {
			for _, behind := range []string{"", " ", "\n", " 3", "\n3", " y", "\ny 01"} {
				text := ahead + word + behind
				got, err := triangle.Parse(text)
				wantAt(t, text, err, api.ErrForm, len(ahead), got)
			}
		}
	}
}

// 14.5: what Check says, without a place.
func TestParseCheck(t *testing.T) {
	for _, c := range []struct {
		text string
		e    api.Errno
	}{
		{"", api.ErrLimit},
		{" \n \n", api.ErrLimit},
		{"1", api.ErrLimit},
		{"1 2 3", api.ErrLimit},
		{"1 2 3 -4", api.ErrLimit},
		{strings.Repeat("1\n", mostRows+1), api.ErrLimit},
		{strings.Repeat("1\n", mostRows), api.ErrForm},
		{strings.Repeat("1 ", api.MaxText/2), api.ErrLimit},
		{strings.Repeat("1\n", api.MaxText/2), api.ErrLimit},
		{"1\n2", api.ErrForm},
		{"1 2\n3 4", api.ErrForm},
		{"1 2 3\n4", api.ErrForm},
		{"1 -2\n3", api.ErrRange},
		{"1 2\n-3", api.ErrRange},
		{"1 2\n1000000000000001", api.ErrRange},
		{"9223372036854775807 2\n3", api.ErrRange},
		{"-9223372036854775808 2\n3", api.ErrRange},
		{"-1 2\n3 4", api.ErrRange},
		{"1 2 -3\n4", api.ErrForm},
	} {
		got, err := triangle.Parse(c.text)
		wantError(t, strconv.Quote(c.text[:min(len(c.text), 30)]), err, c.e, got)
	}
}

// 14.5: a text that is too long is not read.
func TestParseLong(t *testing.T) {
	for _, text := range []string{strings.Repeat(" ", api.MaxText+1), strings.Repeat("x", api.MaxText+1), "1 2\n3" + strings.Repeat("\n", api.MaxText-4)} {
		got, err := triangle.Parse(text)
		wantError(t, "a long text", err, api.ErrLimit, got)
	}
	got, err := triangle.Parse(strings.Repeat("x", api.MaxText))
	wantAt(t, "a long word", err, api.ErrForm, 0, got)
	got, err = triangle.Parse(strings.Repeat(" ", api.MaxText-1) + "x")
	wantAt(t, "a word at the end", err, api.ErrForm, api.MaxText-1, got)
}

// 14.5: what is written is read again as it was.
func TestReadAgain(t *testing.T) {
	r := rand.New(rand.NewSource(3))
	for i := range 500 {
		x := drawnTriangle(r, 2+r.Intn(mostRows-1), []int{2, 1000, api.MaxUnits + 1}[i%3])
		text, err := triangle.Text(x)
		if err != nil {
			t.Fatal(err)
		}
		again, err := triangle.Parse(text)
		if err != nil || !reflect.DeepEqual(again, x) {
			t.Fatalf("%q: %v, %v", text, again, err)
		}
	}
	text, err := triangle.Text(full(mostRows, api.MaxUnits))
	if again, err2 := triangle.Parse(text); err != nil || err2 != nil || !reflect.DeepEqual(again, full(mostRows, api.MaxUnits)) {
		t.Errorf("the longest text: %v, %v", err, err2)
	}
}

// P4: rows that are read share no memory.
func TestParseMemory(t *testing.T) {
	x, err := triangle.Parse("1 2 3\n4 5\n6\n")
	if err != nil {
		t.Fatal(err)
	}
	for i, row := range x {
		for k := range append(row, -1) {
			if k < len(row) {
				row[k] = -1
			}
		}
		if i+1 < len(x) && x[i+1][0] != []int{1, 4, 6}[i+1] {
			t.Error("two rows share memory")
		}
	}
}

// 14.5: whatever the bytes are, a text is read or told to be amiss; what is read may be, and is written.
func TestParseAny(t *testing.T) {
	r := rand.New(rand.NewSource(4))
	pieces := []string{"0", "1", "12", "-", "x", " ", " ", "\n", "\n", "\t", "\xff", "3 4\n5\n"}
	read := 0
	for range 20000 {
		text := ""
		for range r.Intn(8) {
			text += pieces[r.Intn(len(pieces))]
		}
		x, err := triangle.Parse(text)
		if err != nil {
			wantZero(t, text, x)
			continue
		}
		read++
		written, err := triangle.Text(x)
		if err != nil || strings.Join(strings.Fields(written), " ") != strings.Join(strings.Fields(text), " ") {
			t.Fatalf("%q is read, but written %q, %v", text, written, err)
		}
	}
	if read < 100 {
		t.Errorf("only %d texts are read", read)
	}
}

package desk_test

import (
	"strings"
	"testing"

	"tontine/api"
	"tontine/desk"
)

// 18.2: how a text is cut into lines, each answered by a line.
func TestSessionLines(t *testing.T) {
	for _, c := range []struct{ text, answer string }{
		{"", "ok\n"},
		{"\n", "ok\n"},
		{"\n\n", "ok\nok\n"},
		{" ", "ok\n"},
		{"   \n  ", "ok\nok\n"},
		{"split 3 1 2", "1 2\n"},
		{"split 3 1 2\n", "1 2\n"},
		{"split 3 1 2\n\n", "1 2\nok\n"},
		{"\nsplit 3 1 2", "ok\n1 2\n"},
		{"  split   3 1  2 \nx\n", "1 2\nerror 3\n"},
		{"split 3 1 2\r\n", "error 3\n"},
		{"\r\n", "error 3\n"},
		{"\tsplit 3 1 2", "error 3\n"},
		{"split\t3 1 2", "error 3\n"},
		{"split 3 1\t2", "error 3\n"},
		{"split\u00a03 1 2", "error 3\n"},
		{"\x00\n\xff", "error 3\nerror 3\n"},
	} {
		wantSession(t, c.text, c.answer)
	}
}

// 18.2: the longest text, and one byte more, whatever it says.
func TestSessionLimit(t *testing.T) {
	wantSession(t, strings.Repeat("\n", api.MaxText), strings.Repeat("ok\n", api.MaxText))
	wantSession(t, strings.Repeat(" ", api.MaxText), "ok\n")
	wantSession(t, "split 3 1 2"+strings.Repeat(" ", api.MaxText-11), "1 2\n")
	wantSession(t, "split 3 1 2"+strings.Repeat(" ", api.MaxText-11)+"\n", "error 4\n")
	wantSession(t, strings.Repeat("\n", api.MaxText+1), "error 4\n")
	wantSession(t, strings.Repeat("x", 10*api.MaxText), "error 4\n")
}

// 18.2: the first word is one of these, to the letter.
func TestSessionWords(t *testing.T) {
	for _, line := range []string{"x", "Table t from 60 rates 1", "lefts t 60", "lef t 60", "ok", "error 3", "TERM", "60", "-", "/", "policies", "state: p 1", "open", "net"} {
		wantSession(t, line, "error 3\n")
	}
}

// 18.2: fewer and more words than are told, ahead of all else that is wrong.
func TestSessionCounts(t *testing.T) {
	pairs := func(n int) string { return strings.Repeat(" none x", n) }
	for _, line := range []string{
		"table", "left", "left none", "left none 60 1",
		"term", "term none 60 3 5%", "term none 60 3 5% 1000 1",
		"saved", "saved none 60 3 5% 1000", "saved none 60 3 5% 1000 1 1",
		"joint", "joint 1", "joint 1 3", "joint 1 3 5%", "joint 1 3 5%" + pairs(api.MaxLives+1), "joint 1 3 5%" + pairs(api.MaxLives) + " none",
		"many", "many 1", "many 1" + strings.Repeat(" 1/0", api.MaxSize),
		"ruin", "ruin 1", "ruin 1 1", "ruin 1 1 1", "ruin 1 1 1" + strings.Repeat(" 1/0", api.MaxSize-2),
		"bear", "bear" + strings.Repeat(" cede", 21),
		"claims", "claims 5", "claims 5 5 5", "claims" + strings.Repeat(" 5", api.MaxSize+1), "claims" + strings.Repeat(" 5", api.MaxSize+2),
		"grow", "grow 1 2 / 3" + strings.Repeat(" /", 497),
		"policy", "policy A B x 1", "policy A B x 1 1 r r",
		"state", "state p", "state p 1 1 1",
		"split", "split 10", "split 10" + strings.Repeat(" 1/0", api.MaxSize),
	} {
		wantSaid(t, []string{men}, said{line, "error 3"})
	}
}

// 18.2: as many words as may be.
func TestSessionMostWords(t *testing.T) {
	rest := func(word string, n int) string { return strings.Repeat(" "+word, n) }
	wantSaid(t, []string{men},
		said{"joint 1 1 5%" + rest("t 60", api.MaxLives), "1 1.00"},
		said{"many 1 1" + rest("0", api.MaxSize-2), "1"},
		said{"ruin 0 0 1 1" + rest("0", api.MaxSize-4), "error 4"}, // ruin's own bound
		said{"ruin 0 0 1 1" + rest("0", 40), "0 0.00"},
		said{"ruin 0 0 1 1" + rest("0", 41), "error 4"},
		said{"claims" + rest("5 1", api.MaxSize/2), "net 100"},
		said{"grow 1 2 / 3" + rest("/", 496), "0 3"},
		said{"split 199" + rest("1", api.MaxSize-1), strings.TrimSpace(rest("1", api.MaxSize-1))},
	)
}

// 18.2: numbers are written in one way alone, within 64 bits.
func TestSessionNumbers(t *testing.T) {
	for _, word := range []string{"060", "-0", "+60", "60.", "60/1", "6e1", "0x3c", "6_0", "9223372036854775808", "-9223372036854775809", "x", "-", "60%", "６"} {
		wantSaid(t, []string{men, "policy e p open 0 1"},
			said{"left t " + word, "error 3"},
			said{"term t " + word + " 3 5% 1", "error 3"},
			said{"term t 60 " + word + " 5% 1", "error 3"},
			said{"saved t 60 3 5% 1 " + word, "error 3"},
			said{"joint " + word + " 3 5% t 60", "error 3"},
			said{"joint 1 " + word + " 5% t 60", "error 3"},
			said{"joint 1 3 5% t " + word, "error 3"},
			said{"many " + word + " 1", "error 3"},
			said{"ruin " + word + " 1 1 1", "error 3"},
			said{"ruin 1 " + word + " 1 1", "error 3"},
			said{"ruin 1 1 " + word + " 1", "error 3"},
			said{"bear stop " + word + " limit 1 to a", "error 3"},
			said{"claims " + word + " 0", "error 3"},
			said{"claims 5 " + word, "error 3"},
			said{"policy f p pay " + word + " 1", "error 3"},
			said{"policy f p pay 1 " + word, "error 3"},
			said{"state p " + word, "error 3"},
			said{"state p 1 " + word, "error 3"},
			said{"split " + word + " 1", "error 3"},
		)
	}
	wantSaid(t, []string{men},
		said{"left t 9223372036854775807", "0 0.00"},
		said{"left t -9223372036854775808", "error 2"},
		said{"term t 9223372036854775807 3 0 1", "1 1.00"},
		said{"term t 60 9223372036854775807 0 1", "error 4"},
		said{"joint 1 3 0 t 9223372036854775807", "1 1.00"},
		said{"many 9223372036854775807 1 0 0", "error 4"},
		said{"split -9223372036854775808 1", "error 2"},
		said{"state p 9223372036854775807", "error 2"},
	)
}

// 18.2: fractions are read as frac.Parse reads them, with its errors.
func TestSessionFractions(t *testing.T) {
	long := strings.Repeat("1", api.MaxDigits+1)
	for word, answer := range map[string]string{"x": "error 3", "+1": "error 3", "1/": "error 3", "1/0": "error 11", long: "error 4", "1/" + long: "error 4", "-": "error 3"} {
		wantSaid(t, []string{men},
			said{"term t 60 3 " + word + " 1", answer},
			said{"term t 60 3 5% " + word, answer},
			said{"saved t 60 3 " + word + " 1 1", answer},
			said{"joint 1 3 " + word + " t 60", answer},
			said{"many 1 " + word, answer},
			said{"many 1 1 " + word, answer},
			said{"ruin 1 1 1 " + word, answer},
			said{"ruin 1 1 1 1 " + word, answer},
			said{"bear cede " + word + " to a", answer},
			said{"split 1 " + word, answer},
			said{"split 1 1 " + word, answer},
		)
	}
	wantSaid(t, []string{men},
		said{"term t 60 1 0.0 007.50%", "3/400 0.01"},
		said{"term t 60 1 -50% -10/1", "-2 -2.00"},
		said{"many 1 50% 00.25 4/16", "1/2 1/4 1/4"},
		said{"split 10 -0/5 0.5 50%", "0 5 5"},
	)
}

// P4: what a session is answered hangs on its text alone.
func TestSessionAgain(t *testing.T) {
	text := men + "\nleft t 60\nbear cede 1/2 to a\nclaims 10 10\npolicy e p open 0 365\nstate p 0\n"
	want := "ok\n21/10 2.10\nok\nnet 5 a 5\nok\non premium 365 earned 1 paid 0 passed 0\n"
	wantSession(t, text, want)
	wantSession(t, "left t 60\nclaims 10 10\nstate p 0\n", "error 7\nnet 10\nerror 7\n")
	wantSession(t, text, want)
	if desk.Session(text+"\x00") == desk.Session(text) {
		t.Error("a line more is not answered")
	}
}

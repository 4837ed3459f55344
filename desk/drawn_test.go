package desk_test

import (
	"math/rand"
	"regexp"
	"strings"
	"testing"

	"tontine/desk"
)

// vocabulary has lines; in each, in the place of words that begin with a great letter, one of those that it tells stands.
var vocabulary = map[string]string{
	"NAME": "t u none", "AGE": "0 60 61 131 x", "YEARS": "0 1 3 121 x", "RATE": "5% 0 -1 1/0 x", "AMOUNT": "0 1 9 1000 x", "LEAST": "0 1 2 x",
	"N": "0 2 300 x", "Q": "0 1 1/2 1/2 1/4 1/0 x", "UNITS": "0 7 10 -1 x", "TO": "a b C", "ID": "e1 e2 e3 e4 E", "POLICY": "p p p q", "DAY": "0 1 2 3 x",
	"KIND": "open open change close pay claim put out back settle annul x", "REF": "c d e1 e2", "KNOWN": "0 1 2 x", "LIVES": "10 9 5 0 x",
}

// shapes are lines of all kinds, some of them too short.
var shapes = []string{
	"table NAME from AGE rates 1/2 1", "table NAME from AGE lives LIVES LIVES", "table NAME", "left NAME AGE", "term NAME AGE YEARS RATE AMOUNT",
	"saved NAME AGE YEARS RATE AMOUNT YEARS", "joint LEAST YEARS RATE NAME AGE", "joint LEAST YEARS RATE NAME AGE NAME AGE", "joint LEAST YEARS RATE NAME AGE NAME",
	"many N Q", "many N Q Q", "ruin N N YEARS Q Q", "bear cede Q to TO", "bear excess AMOUNT limit AMOUNT to TO", "bear stop AMOUNT limit AMOUNT to TO",
	"claims AMOUNT AMOUNT", "claims AMOUNT AMOUNT 1000 100", "grow AMOUNT AMOUNT / AMOUNT", "grow AMOUNT / AMOUNT", "split UNITS Q Q",
	"policy ID POLICY KIND DAY AMOUNT", "policy ID POLICY KIND DAY AMOUNT REF", "policy ID POLICY KIND DAY 0 REF", "state POLICY DAY", "state POLICY DAY KNOWN", "", "none",
}

// drawnLine is one of them.
func drawnLine(r *rand.Rand) string {
	words := strings.Fields(shapes[r.Intn(len(shapes))])
	for i, w := range words {
		if choice := strings.Fields(vocabulary[w]); len(choice) > 0 {
			words[i] = choice[r.Intn(len(choice))]
		}
	}
	return strings.Join(words, strings.Repeat(" ", 1+r.Intn(2)))
}

// answers are those of lines.
func answers(t *testing.T, l []string) []string {
	t.Helper()
	told, ended := strings.CutSuffix(desk.Session(strings.Join(l, "\n")+"\n"), "\n")
	a := strings.Split(told, "\n")
	if !ended || len(a) != len(l) {
		t.Fatalf("%q: %q", l, told)
	}
	return a
}

// P2: a line that is answered with an error changes nothing: without it all others are answered as they were. What is told later changes no answer.
func TestDrawnErrors(t *testing.T) {
	r := rand.New(rand.NewSource(2))
	seen := map[string]int{}
	for range 1500 {
		var l []string
		for range 1 + r.Intn(40) {
			l = append(l, drawnLine(r))
		}
		all := answers(t, l)
		var good, told []string
		for i, a := range all {
			seen[strings.Fields(l[i] + " -")[0]+" "+strings.Fields(a)[0]]++
			if !strings.HasPrefix(a, "error") {
				good, told = append(good, l[i]), append(told, a)
			}
		}
		if len(good) > 0 && strings.Join(answers(t, good), "\n") != strings.Join(told, "\n") {
			t.Fatalf("%q: %q; without errors: %q", l, all, answers(t, good))
		}
		some := 1 + r.Intn(len(l))
		if strings.Join(answers(t, l[:some]), "\n") != strings.Join(all[:some], "\n") {
			t.Fatalf("%q: %q; the first %d: %q", l, all, some, answers(t, l[:some]))
		}
	}
	for _, what := range []string{"table ok", "bear ok", "policy ok", "claims net", "state on", "state off", "left error", "joint error", "grow error", "- ok", "none error"} {
		if seen[what] == 0 {
			t.Errorf("no line was so: %s", what)
		}
	}
}

// strange are bytes that stand in lines, or do not.
const strange = " /%-.0123456789abct\t\r\x00\xff"

// P1: whatever bytes there are, each line is answered, in one of the forms that the document tells.
func TestDrawnBytes(t *testing.T) {
	form := regexp.MustCompile(`^(ok|error ([1-9]|1[0-5])|-?\d+(/\d+)? -?\d+\.\d\d|-?\d+(/\d+)?( -?\d+(/\d+)?)*|net \d+( [a-z0-9-]+ \d+)*|(on|off) premium \d+ earned \d+(/\d+)? paid \d+ passed \d+( [a-z0-9-]+ \d+ \d+ \d+)*)$`)
	r := rand.New(rand.NewSource(3))
	for range 3000 {
		var l []string
		for range 1 + r.Intn(12) {
			line := []byte(drawnLine(r))
			for i := range line {
				if r.Intn(30) == 0 {
					line[i] = strange[r.Intn(len(strange))]
				}
			}
			l = append(l, string(line))
		}
		for i, a := range answers(t, l) {
			if !form.MatchString(a) {
				t.Fatalf("%q, behind %q: %q", l[i], l[:i], a)
			}
		}
	}
}

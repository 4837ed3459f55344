package desk_test

import (
	"strconv"
	"testing"
)

// 18.2: policy and state, as the document's chapter 17 has them.
func TestPolicy(t *testing.T) {
	wantSaid(t, []string{"policy e1 p open 10 3650", "policy e2 p claim 20 500 c1", "policy e3 p out 30 200 c1"},
		said{"state p 9", "error 7"},
		said{"state p 10", "on premium 3650 earned 10 paid 0 passed 0"},
		said{"state p 40", "on premium 3650 earned 310 paid 0 passed 0 c1 300 200 0"},
		said{"policy e4 p annul 35 0 e3", "ok"},
		said{"state p 34", "on premium 3650 earned 250 paid 0 passed 0 c1 300 200 0"},
		said{"state p 40", "on premium 3650 earned 310 paid 0 passed 0 c1 500 0 0"},
		said{"state p 40 3", "on premium 3650 earned 310 paid 0 passed 0 c1 300 200 0"},
		said{"state p 40 4", "on premium 3650 earned 310 paid 0 passed 0 c1 500 0 0"},
		said{"state p 40 1", "on premium 3650 earned 310 paid 0 passed 0"},
		said{"state p 40 0", "error 7"},
		said{"policy e1 p open 10 3650", "ok"},
		said{"state p 40 5", "error 2"}, // what is told twice is told once
		said{"policy e1 p open 11 3650", "error 6"},
		said{"state p 40 5", "error 2"},
		said{"policy e5 q open 0 1", "ok"},
		said{"state q 0 5", "on premium 1 earned 1/365 paid 0 passed 0"},
	)
}

// 18.2: all kinds by their words, cases in order of their names, and what is passed over.
func TestPolicyKinds(t *testing.T) {
	wantSaid(t, []string{
		"policy a p open 0 365", "policy b p change 1 730", "policy c p pay 1 77", "policy d p claim 1 50 z", "policy e p put 2 60 z",
		"policy f p out 2 20 z", "policy g p back 3 5 z", "policy h p claim 3 9 b", "policy i p settle 4 0 b", "policy j p close 5 0", "policy k p out 5 100 z", "policy l p pay 6 3",
		"policy m p annul 9 0 k",
	},
		said{"state p 0", "on premium 365 earned 1 paid 0 passed 0"},
		said{"state p 1", "on premium 730 earned 3 paid 77 passed 0 z 50 0 0"},
		said{"state p 2", "on premium 730 earned 5 paid 77 passed 0 z 40 20 0"},
		said{"state p 3", "on premium 730 earned 7 paid 77 passed 0 b 9 0 0 z 40 20 5"},
		said{"state p 4", "on premium 730 earned 9 paid 77 passed 0 b 0 0 0 z 40 20 5"},
		said{"state p 5", "off premium 0 earned 9 paid 77 passed 1 b 0 0 0 z 40 20 5"},
		said{"state p 6", "off premium 0 earned 9 paid 80 passed 1 b 0 0 0 z 40 20 5"},
		said{"state p 100000", "off premium 0 earned 9 paid 80 passed 0 b 0 0 0 z 40 20 5"},
	)
}

// 18.2: words from the left, then what Add says; another KIND is as 0.
func TestPolicyAmiss(t *testing.T) {
	for line, answer := range map[string]string{
		"policy f p x 1 1":                "error 1",
		"policy f p Open 1 1":             "error 1",
		"policy f p 1 1 1":                "error 1",
		"policy F p x 1 1":                "error 5",
		"policy f P x 1 1":                "error 5",
		"policy F p x x 1":                "error 3",
		"policy F p x 1 x":                "error 3",
		"policy F p x 1 x r":              "error 3",
		"policy f p x -1 1":               "error 1",
		"policy f p pay -1 1":             "error 2",
		"policy f p pay 100001 1":         "error 2",
		"policy f p pay 1 1000000001":     "error 2",
		"policy f p pay 1 1 r":            "error 1",
		"policy f p claim 1 1":            "error 1",
		"policy f p claim 1 1 R":          "error 1",
		"policy f p close 1 1":            "error 1",
		"policy f p annul 1 0 none":       "error 7",
		"policy f q annul 1 0 e":          "error 7",
		"policy e p open 1 365 r":         "error 1",
		"policy e p open 1 366":           "error 6",
		"policy e p annul 1 0 none":       "error 6",
		"policy f p open 1 1 annul annul": "error 3",
	} {
		wantSaid(t, []string{"policy e p open 1 365"}, said{line, answer}, said{"state p 1 1", "on premium 365 earned 1 paid 0 passed 0"}, said{"state p 1 2", "error 2"})
	}
}

// 18.2: state: words from the left, then what At says.
func TestStateAmiss(t *testing.T) {
	wantSaid(t, []string{"policy e p open 1 365"},
		said{"state q x", "error 3"},
		said{"state p 1 x", "error 3"},
		said{"state p -1 x", "error 3"},
		said{"state p -1", "error 2"},
		said{"state p 100001", "error 2"},
		said{"state p 1 -1", "error 2"},
		said{"state p 1 2", "error 2"},
		said{"state q 1", "error 7"},
		said{"state P 1", "error 7"},
		said{"state p 0", "error 7"},
		said{"state p 1 0", "error 7"},
		said{"state p 100000", "on premium 365 earned 100000 paid 0 passed 0"},
	)
}

// 18.2: 2,000 events are told at most, and state counts all of them, if nothing else is said.
func TestPolicyLimit(t *testing.T) {
	var ahead []string
	for i := range 2000 {
		ahead = append(ahead, "policy "+strconv.Itoa(i)+" p pay 0 1")
	}
	wantSaid(t, ahead,
		said{"state p 0", "off premium 0 earned 0 paid 2000 passed 0"},
		said{"state p 0 1999", "off premium 0 earned 0 paid 1999 passed 0"},
		said{"policy more p pay 0 1", "error 4"},
		said{"policy 0 p pay 0 1", "ok"},
		said{"policy 0 p pay 0 2", "error 6"},
		said{"state p 0", "off premium 0 earned 0 paid 2000 passed 0"},
	)
}

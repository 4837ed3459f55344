package desk_test

import (
	"strings"
	"testing"

	"tontine/api"
)

// 18.2: a table is told as table.Read reads it; from then on it has its name, until another one has it.
func TestTable(t *testing.T) {
	wantSaid(t, nil,
		said{"left t 60", "error 7"},
		said{"  table   t  from 60    lives 1000 900 700 400 100  ", "ok"},
		said{"left t 60", "21/10 2.10"},
		said{"left T 60", "error 7"},
		said{"left table 60", "error 7"},
		said{"table other from 0 rates 1/2 1", "ok"},
		said{"left t 60", "21/10 2.10"},
		said{"left other 0", "1/2 0.50"},
		said{"table t from 10 rates 0.25 1", "ok"},
		said{"left t 60", "0 0.00"},
		said{"left t 10", "3/4 0.75"},
	)
}

// 18.2: what table.Read says; the table that has the name stays.
func TestTableAmiss(t *testing.T) {
	for line, answer := range map[string]string{
		"table":                               "error 3",
		"table t":                             "error 3",
		"table t from 60":                     "error 3",
		"table t to 60 rates 1":               "error 3",
		"table t from 060 rates 1":            "error 3",
		"table t from 60 rates x 1":           "error 3",
		"table t from 60 rates 1/0 1":         "error 11",
		"table t from 60 rates":               "error 2",
		"table t from -1 rates 1":             "error 2",
		"table t from 130 rates 0 1":          "error 2",
		"table t from 60 rates 1/2":           "error 1",
		"table t from 60 rates 1 1":           "error 1",
		"table t from 60 lives 0 1":           "error 1",
		"table T from 60 rates 1":             "error 5",
		"table table t from 60 rates 1":       "error 3",
		"table t from 60 rates " + ones(61):   "error 4",
		"table " + ones(21) + " from 1 rates": "error 5",
		"table t from 60\trates 1":            "error 3",
	} {
		wantSaid(t, []string{men}, said{line, answer}, said{"left t 60", "21/10 2.10"})
	}
	wantSaid(t, nil, said{"table t from 60 rates 1/2", "error 1"}, said{"left t 60", "error 7"})
}

// ones is a number of so many digits, and a name of so many bytes.
func ones(n int) string { return strings.Repeat("1", n) }

// 18.2: left, and what is wrong, from the left.
func TestLeft(t *testing.T) {
	wantSaid(t, []string{men},
		said{"left t 60", "21/10 2.10"},
		said{"left t 61", "4/3 1.33"},
		said{"left t 63", "1/4 0.25"},
		said{"left t 64", "0 0.00"},
		said{"left t 131", "0 0.00"},
		said{"left t 59", "error 2"},
		said{"left t -1", "error 2"},
		said{"left t x", "error 3"},
		said{"left x x", "error 7"},
		said{"left x 59", "error 7"},
	)
}

// 18.2: term, and what is wrong: words from the left, then Life.
func TestTerm(t *testing.T) {
	wantSaid(t, []string{men},
		said{"term t 60 3 5% 1000", "1654000/7693 215.00"},
		said{"term t 60 3 5% 1/2", "827/7693 0.11"},
		said{"term t 60 3 5% -1000", "-1654000/7693 -215.00"},
		said{"term t 60 1 0 0", "0 0.00"},
		said{"term t 60 120 0 31", "10 10.00"},
		said{"term t 65 120 1 6", "3 3.00"},
		said{"term x y z w v", "error 7"},
		said{"term t y 0 1/0 1/0", "error 3"},
		said{"term t 59 z 1/0 1/0", "error 3"},
		said{"term t 59 0 1/0 x", "error 11"},
		said{"term t 59 0 x 1/0", "error 3"},
		said{"term t 59 0 -1 1/0", "error 11"},
		said{"term t 59 0 -1 1", "error 4"},
		said{"term t 59 121 -1 1", "error 4"},
		said{"term t 59 3 -1 1", "error 2"},
		said{"term t 60 3 -1 1", "error 1"},
	)
}

// 18.2: saved: all that is wrong up to the premium is told ahead of the year.
func TestSaved(t *testing.T) {
	wantSaid(t, []string{men},
		said{"saved t 60 3 5% 1000 0", "0 0.00"},
		said{"saved t 60 3 5% 1000 1", "1382000/9891 139.72"},
		said{"saved t 60 3 5% 1000 3", "0 0.00"},
		said{"saved t 60 3 5% 1000 4", "error 2"},
		said{"saved t 60 3 5% 1000 -1", "error 2"},
		said{"saved t 60 3 5% 1000 x", "error 3"},
		said{"saved t 60 3 -1 1000 x", "error 1"},
		said{"saved t 59 3 5% 1000 x", "error 2"},
		said{"saved t 60 0 5% 1000 x", "error 4"},
		said{"saved t 60 3 5% 1/0 x", "error 11"},
		said{"saved t 60 3 1/0 x x", "error 11"},
		said{"saved x 60 0 5% 1000 x", "error 7"},
	)
}

// 18.2: joint: the lives are read first, pair by pair; then the words ahead of them.
func TestJoint(t *testing.T) {
	wantSaid(t, []string{men, "table u from 0 rates 1/2 1"},
		said{"joint 1 3 5% t 60 t 61", "395/147 2.69"},
		said{"joint 2 3 5% t 60 t 61", "1105/567 1.95"},
		said{"joint 0 3 0 t 60", "3 3.00"},
		said{"joint 1 0 0 t 60", "0 0.00"},
		said{"joint 2 3 0 t 60 u 0", "29/20 1.45"},
		said{"joint 1 3 5% t", "error 3"},
		said{"joint 1 3 5% x", "error 3"},
		said{"joint 1 3 5% t 60 x", "error 3"},
		said{"joint 1 3 5% x 60 t", "error 7"},
		said{"joint 1 3 5% x x t 60", "error 7"},
		said{"joint 1 3 5% t x x 60", "error 3"},
		said{"joint 1 3 5% t 60 x x", "error 7"},
		said{"joint x x x x 60", "error 7"},
		said{"joint x 3 1/0 t 60", "error 3"},
		said{"joint 1 x 1/0 t 60", "error 3"},
		said{"joint 9 121 1/0 t 59", "error 11"},
		said{"joint 9 121 -1 t 60", "error 2"},
		said{"joint 9 3 -1 t 59", "error 1"},
		said{"joint 2 3 0 t 60", "error 2"},
		said{"joint -1 3 0 t 60", "error 2"},
		said{"joint 1 -1 0 t 60", "error 2"},
		said{"joint 1 3 0 t 60 t 59", "error 2"},
		said{"joint 12 2 0" + strings.Repeat(" u 0", api.MaxLives), "4097/4096 1.00"},
	)
}

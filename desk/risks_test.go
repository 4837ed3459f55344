package desk_test

import (
	"slices"
	"strconv"
	"strings"
	"testing"

	"tontine/api"
)

// 18.2: many: the law is read first, then how many; then what Times says.
func TestMany(t *testing.T) {
	wantSaid(t, nil,
		said{"many 3 1/2 1/2", "1/8 3/8 3/8 1/8"},
		said{"many 0 1/2 1/2", "1"},
		said{"many 1 0 1 0 0", "0 1"},
		said{"many 200 0 1", strings.Repeat("0 ", 200) + "1"},
		said{"many 201 0 1", "error 4"},
		said{"many 201 1", "error 4"},
		said{"many -1 1", "error 4"},
		said{"many 101 0 0 1", "error 4"},
		said{"many 2 1/2 1/3", "error 10"},
		said{"many 201 1/2 1/3", "error 10"},
		said{"many 201 -1/2 3/2", "error 1"},
		said{"many x 1/0", "error 11"},
		said{"many x 1 1/0", "error 11"},
		said{"many x 1/2", "error 3"},
		said{"many 1 x 1/0", "error 3"},
		said{"many 1 1/0 x", "error 11"},
	)
}

// 18.2: ruin: START, INCOME, the law, then YEARS are read; then what Within says.
func TestRuin(t *testing.T) {
	wantSaid(t, nil,
		said{"ruin 1 1 3 1/2 0 0 1/2", "5/8 0.62"},
		said{"ruin 60 20 16 1", "0 0.00"},
		said{"ruin 0 0 1 1/3 2/3", "2/3 0.67"},
		said{"ruin 0 0 0 1/3 2/3", "0 0.00"},
		said{"ruin 0 1 1 1/3 2/3", "0 0.00"},
		said{"ruin x 1 y 1/0", "error 3"},
		said{"ruin 1 x y 1/0", "error 3"},
		said{"ruin 61 1 y 1/0", "error 11"},
		said{"ruin 61 1 y 1/2", "error 3"},
		said{"ruin 61 1 3 1/2", "error 10"},
		said{"ruin 61 1 3 1", "error 2"},
		said{"ruin 1 21 3 1", "error 2"},
		said{"ruin 1 1 17 1", "error 2"},
		said{"ruin -1 1 1 1", "error 2"},
	)
}

// 18.2: bear and claims: lines one behind the other; what each bears of each claim, and a stop of all.
func TestBear(t *testing.T) {
	ahead := []string{"bear cede 30% to a", " bear  excess 50 limit 100 again 1 at 10   to b ", "bear stop 60 limit 100 to c"}
	wantSaid(t, ahead,
		said{"claims 1000 100 1000 300", "net 60 a 120 b 120 c 100"},
		said{"claims 1000 100", "net 50 a 30 b 20 c 0"},
		said{"claims 1000 100 1000 300", "net 60 a 120 b 120 c 100"}, // no claim is kept
		said{"bear cede 1 to d", "error 12"},
		said{"claims 1000 300", "net 60 a 90 b 100 c 50"},
		said{"bear stop 10 limit 30 to a", "ok"},
		said{"claims 1000 300", "net 30 a 90 b 100 c 50 a 30"},
	)
	wantSaid(t, nil,
		said{"claims 1000 100 5 5", "net 105"},
		said{"bear surplus 100 times 3 to s", "ok"},
		said{"claims 1000 100 400 40 100 10", "net 90 s 60"},
		said{"bear cede 0 to s", "ok"},
		said{"claims 1000 100 400 40 100 10", "net 90 s 60 s 0"},
	)
}

// 18.2: what Parse says of a line, and then what Check says of all; an error leaves all as it was.
func TestBearAmiss(t *testing.T) {
	for line, answer := range map[string]string{
		"bear x":                                          "error 3",
		"bear cede 30%":                                   "error 3",
		"bear cede 30% for a":                             "error 3",
		"bear cede 2 to a":                                "error 1",
		"bear cede 1/0 to a":                              "error 11",
		"bear cede 1 to A":                                "error 5",
		"bear cede 1 to b":                                "error 12",
		"bear cede 2 to b":                                "error 1", // ahead of what Check says of all
		"bear stop -1 limit 5 to a":                       "error 2",
		"bear excess 5 limit 0 to a":                      "error 1",
		"bear excess 5 limit 5 again 0 at 1 to a":         "error 1",
		"bear bear cede 1 to a":                           "error 3",
		"bear / cede 1 to a":                              "error 3",
		"bear" + strings.Repeat(" cede 1 to a", 5):        "error 3",
		"bear" + strings.Repeat(" cede 1 to a", 5) + " x": "error 3",
	} {
		wantSaid(t, []string{"bear cede 1/2 to a", "bear stop 1 limit 1 to c"}, said{line, answer}, said{"claims 9 9", "net 4 a 4 c 1"})
	}
}

// 18.2: as many lines as a treaty may have; what is wrong with a line is told ahead of that.
func TestBearLimit(t *testing.T) {
	var ahead []string
	borne := ""
	for i := range api.MaxRows {
		name := "n" + strconv.Itoa(i)
		ahead = append(ahead, "bear cede 0 to "+name)
		borne += " " + name + " 0"
	}
	wantSaid(t, ahead,
		said{"claims 5 3", "net 3" + borne},
		said{"bear cede 0 to more", "error 4"},
		said{"bear stop 0 limit 0 to more", "error 4"},
		said{"bear cede 2 to more", "error 1"},
		said{"claims 5 3", "net 3" + borne},
	)
	wantSaid(t, slices.Repeat([]string{"bear stop 0 limit 0 to a"}, api.MaxRows), said{"bear cede 0 to a", "error 4"})
}

// 18.2: claims: pairs of numbers, and what Apply says.
func TestClaimsAmiss(t *testing.T) {
	wantSaid(t, nil,
		said{"claims 5 6", "error 2"},
		said{"claims 0 0", "error 2"},
		said{"claims 5 -1", "error 2"},
		said{"claims 1000000000001 1", "error 2"},
		said{"claims 1000000000000 1000000000000", "net 1000000000000"},
		said{"claims 5 6 5", "error 3"},
		said{"claims 5 6 5 x", "error 3"},
		said{"claims x 6", "error 3"},
		said{"claims 5 5 5 6", "error 2"},
	)
}

// 18.2: grow: a triangle, with / in the place of each line feed.
func TestGrow(t *testing.T) {
	wantSaid(t, nil,
		said{"grow 100 150 165 / 110 160 / 120", "0 16 524/7"},
		said{"grow 100 150 165/110 160/120", "0 16 524/7"},
		said{"grow / 2 3 / / 4 /", "0 2"},
		said{"grow 2 3/4", "0 2"},
		said{"grow 2 1/4", "0 -2"},
		said{"grow /", "error 4"},
		said{"grow 1", "error 4"},
		said{"grow 1 2 3", "error 4"},
		said{"grow 1 / 2", "error 3"},
		said{"grow 1 2 / 3 4", "error 3"},
		said{"grow 1 x / 3", "error 3"},
		said{"grow 01 2 / 3", "error 3"},
		said{"grow 1 -2 / 3", "error 2"},
		said{"grow 1 1000000000000001 / 3", "error 2"},
		said{"grow 0 0 / 0", "error 11"},
		said{"grow 1 2 % 3", "error 3"},
	)
}

// 18.2: grow: 20 years at most.
func TestGrowMost(t *testing.T) {
	triangle := func(rows int) string {
		var l []string
		for i := range rows {
			l = append(l, strings.TrimSpace(strings.Repeat("1 ", rows-i)))
		}
		return "grow " + strings.Join(l, " / ")
	}
	wantSaid(t, nil,
		said{triangle(20), strings.TrimSpace(strings.Repeat("0 ", 20))},
		said{triangle(21), "error 4"},
		said{triangle(2), "0 0"},
	)
}

// 18.2: split: the units are read first, then the weights; then what Split says.
func TestSplit(t *testing.T) {
	wantSaid(t, nil,
		said{"split 10 1 1 1", "4 3 3"},
		said{"split 100 1 1 1", "34 33 33"},
		said{"split 0 1", "0"},
		said{"split 1000000000000000 1/3 2/3", "333333333333333 666666666666667"},
		said{"split 1000000000000001 1", "error 2"},
		said{"split -1 1", "error 2"},
		said{"split -1 -1", "error 2"},
		said{"split 10 -1 2", "error 1"},
		said{"split 10 0 0", "error 11"},
		said{"split x 1/0", "error 3"},
		said{"split -1 1/0", "error 11"},
		said{"split 10 1/0 x", "error 11"},
		said{"split 10 x 1/0", "error 3"},
	)
}

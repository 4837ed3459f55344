package chain_test

import (
	"testing"

	"tontine/chain"
	"tontine/frac"
)

// 3.5: by hand; the first one is DOC.md's example 3.
func TestEnds(t *testing.T) {
	for _, c := range []struct{ m, ends, years string }{
		{"1/2 1/2;0 1", "0 1; 0 1", "2 0"},
		{"1", "1", "0"},
		{"1 0;0 1", "1 0; 0 1", "0 0"},
		{"0 1;1 0", "1 1; 1 1", "0 0"},
		{"0 1;0 1", "0 1; 0 1", "1 0"},
		{"1/2 1/2 0;0 0 1;0 1 0", "0 1 1; 0 1 1; 0 1 1", "2 0 0"},
		{"1/3 1/3 1/3;0 1 0;0 0 1", "0 1/2 1/2; 0 1 0; 0 0 1", "3/2 0 0"},
		{"999999/1000000 1/1000000;0 1", "0 1; 0 1", "1000000 0"},
		{"0 1/2 1/2 0;0 1 0 0;1/2 0 0 1/2;0 0 0 1", "0 2/3 0 1/3; 0 1 0 0; 0 1/3 0 2/3; 0 0 0 1", "2 0 2 0"},
		// who has 1, 2 or 3 of 4, and wins or loses one in turn
		{"1 0 0 0 0;1/2 0 1/2 0 0;0 1/2 0 1/2 0;0 0 1/2 0 1/2;0 0 0 0 1", "1 0 0 0 0; 3/4 0 0 0 1/4; 1/2 0 0 0 1/2; 1/4 0 0 0 3/4; 0 0 0 0 1", "0 3 4 3 0"},
		// a class of two beside one of one, and a class that is left
		{"0 1 0 0 0;1/2 0 1/4 0 1/4;0 0 0 1 0;0 0 1/2 1/2 0;0 0 0 0 1", "0 0 1/2 1/2 1/2; 0 0 1/2 1/2 1/2; 0 0 1 1 0; 0 0 1 1 0; 0 0 0 0 1", "4 3 0 0 0"},
	} {
		ends, years, err := chain.Ends(matrix(t, c.m))
		if err != nil || written(ends) != c.ends || frac.Words(years) != c.years {
			t.Errorf("%s: %s, %s, %v, not %s, %s", c.m, written(ends), frac.Words(years), err, c.ends, c.years)
		}
	}
}

// wantEnds fails unless what is told of each state is, in the mean, what is told of those that come behind it, with a year more: just one answer is so, where each comes at last into a closed class.
func wantEnds(t *testing.T, m chain.Matrix) {
	t.Helper()
	of, closed, err := chain.Classes(m)
	if err != nil {
		t.Fatal(err)
	}
	ends, years, err := chain.Ends(m)
	if err != nil || len(ends) != len(m) || len(years) != len(m) {
		t.Fatalf("%s: %s, %s, %v", written(m), written(ends), frac.Words(years), err)
	}
	for i := range m {
		if len(ends[i]) != len(m) {
			t.Fatalf("%s: %s", written(m), written(ends))
		}
		for k := range m {
			due := 0
			if closed[i] && of[i] == of[k] {
				due = 1
			}
			if (closed[i] || !closed[k]) && ends[i][k].Cmp(frac.Whole(due)) != 0 {
				t.Fatalf("%s: %s, at %d %d", written(m), written(ends), i, k)
			}
			if closed[k] && !closed[i] {
				wantMean(t, m, i, frac.Frac{}, func(j int) frac.Frac { return ends[j][k] })
			}
		}
		if closed[i] {
			want(t, written(m), years[i], nil, "0")
		} else {
			wantMean(t, m, i, frac.Whole(1), func(j int) frac.Frac { return years[j] })
		}
	}
}

// wantMean fails unless a state's value is the mean of those of the states behind it, and something more.
func wantMean(t *testing.T, m chain.Matrix, i int, more frac.Frac, value func(j int) frac.Frac) {
	t.Helper()
	mean := more
	for j := range m {
		mean = mean.Add(m[i][j].Mul(value(j)))
	}
	if mean.Cmp(value(i)) != 0 {
		t.Fatalf("%s: state %d: %s, not %s", written(m), i, value(i).Text(), mean.Text())
	}
}

package chain_test

import (
	"fmt"
	"math/rand"
	"testing"

	"tontine/api"
	"tontine/chain"
	"tontine/frac"
)

// 3.4: by hand.
func TestClasses(t *testing.T) {
	for _, c := range []struct {
		m      string
		of     []int
		closed []bool
		steady string // none: ErrMany
	}{
		{"1", []int{0}, []bool{true}, "1"},
		{"1/2 1/2;0 1", []int{0, 1}, []bool{false, true}, "0 1"},
		{"1 0;1/2 1/2", []int{0, 1}, []bool{true, false}, "1 0"},
		{"0 1;1 0", []int{0, 0}, []bool{true, true}, "1/2 1/2"},
		{"1 0;0 1", []int{0, 1}, []bool{true, true}, ""},
		{"9/10 1/10;2/5 3/5", []int{0, 0}, []bool{true, true}, "4/5 1/5"},
		{"0 1 0;0 0 1;1 0 0", []int{0, 0, 0}, []bool{true, true, true}, "1/3 1/3 1/3"},
		{"0 1 0;0 0 1;0 1 0", []int{0, 1, 1}, []bool{false, true, true}, "0 1/2 1/2"},
		{"1/2 0 1/2;0 1 0;1/4 0 3/4", []int{0, 1, 0}, []bool{true, true, true}, ""},
		{"1/2 1/4 1/4;0 1 0;1/4 0 3/4", []int{0, 1, 0}, []bool{false, true, false}, "0 1 0"},
		{"0 1 0 0;1/2 0 1/2 0;0 0 0 1;0 0 1/3 2/3", []int{0, 0, 2, 2}, []bool{false, false, true, true}, "0 0 1/4 3/4"},
		{"0 0 0 1;0 1/2 1/2 0;0 1 0 0;1 0 0 0", []int{0, 1, 1, 0}, []bool{true, true, true, true}, ""},
		{"0 0 1 0;1/3 1/3 0 1/3;1 0 0 0;0 0 0 1", []int{0, 1, 0, 3}, []bool{true, false, true, true}, ""},
	} {
		m := matrix(t, c.m)
		of, closed, err := chain.Classes(m)
		if err != nil || fmt.Sprint(of) != fmt.Sprint(c.of) || fmt.Sprint(closed) != fmt.Sprint(c.closed) {
			t.Errorf("%s: %v %v %v, not %v %v", c.m, of, closed, err, c.of, c.closed)
		}
		steady, err := chain.Steady(m)
		if c.steady == "" {
			wantError(t, c.m, err, api.ErrMany, steady)
		} else {
			wantRow(t, c.m, steady, err, c.steady)
		}
	}
}

// reachable tells of each two states whether the second one can come behind the first one, by way of each state after the other.
func reachable(m chain.Matrix) [][]bool {
	n := len(m)
	can := make([][]bool, n)
	for i := range n {
		can[i] = make([]bool, n)
		for k := range n {
			can[i][k] = i == k || m[i][k].Sign() > 0
		}
	}
	for by := range n {
		for i := range n {
			for k := range n {
				can[i][k] = can[i][k] || can[i][by] && can[by][k]
			}
		}
	}
	return can
}

// wantClasses fails unless the classes are as the document says, and tells the least states of those that are closed.
func wantClasses(t *testing.T, m chain.Matrix) []int {
	t.Helper()
	of, closed, err := chain.Classes(m)
	if err != nil || len(of) != len(m) || len(closed) != len(m) {
		t.Fatalf("%s: %v %v %v", written(m), of, closed, err)
	}
	can := reachable(m)
	var ends []int
	for i := range m {
		least, stays := i, true
		for k := range m {
			if can[i][k] && can[k][i] {
				least = min(least, k)
			}
			stays = stays && (!can[i][k] || can[k][i])
		}
		if of[i] != least || closed[i] != stays {
			t.Fatalf("%s: %v %v; state %d", written(m), of, closed, i)
		}
		if stays && least == i {
			ends = append(ends, i)
		}
	}
	return ends
}

// wantSteady fails unless there is a row that a year leaves as it is where there is one closed class, and ErrMany where there are several.
func wantSteady(t *testing.T, m chain.Matrix, ends []int) {
	t.Helper()
	steady, err := chain.Steady(m)
	if len(ends) > 1 {
		wantError(t, written(m), err, api.ErrMany, steady)
		return
	}
	if err != nil || len(steady) != len(m) {
		t.Fatalf("%s: %d chances, %v", written(m), len(steady), err)
	}
	can := reachable(m)
	for k := range m {
		if s := steady[k].Sign(); s < 0 || (s > 0) != can[ends[0]][k] {
			t.Errorf("%s: %s", written(m), frac.Words(steady))
		}
	}
	c := made(t, []chain.Matrix{m, m})
	for to := range 3 { // Spread says, too, unless the row is one together
		l, err := c.Spread(steady, 0, to)
		wantRow(t, written(m), l, err, frac.Words(steady))
	}
}

// everyShape does something with a matrix of each shape of n states: of all ways in which chances may be above 0.
func everyShape(n int, do func(m chain.Matrix)) {
	shapes := 1<<n - 1
	all := 1
	for range n {
		all *= shapes
	}
	for code := range all {
		m := make(chain.Matrix, n)
		for i := range n {
			m[i] = shaped(n, 1+code%shapes, 1+i)
			code /= shapes
		}
		do(m)
	}
}

// shaped is a row whose chances are above 0 where the shape has a bit, uneven by lean.
func shaped(n, shape, lean int) []frac.Frac {
	row := make([]frac.Frac, n)
	all := 0
	for k := range n {
		if shape>>k&1 == 1 {
			all += k + lean
		}
	}
	for k := range n {
		if shape>>k&1 == 1 {
			row[k], _ = frac.Of(k+lean, all)
		}
	}
	return row
}

// 3.4, 3.5; DOC.md, 2: all shapes of up to three states, and drawn matrices of up to as many as may be: classes, what is steady stays, where each comes at last.
func TestEveryShape(t *testing.T) {
	for n := 1; n <= 3; n++ {
		everyShape(n, func(m chain.Matrix) {
			ends := wantClasses(t, m)
			wantSteady(t, m, ends)
			wantEnds(t, m)
		})
	}
	r := rand.New(rand.NewSource(5))
	for range 300 {
		m := drawn(r, 1+r.Intn(api.MaxStates))
		for i := range m {
			if r.Intn(2) == 0 { // few ways, so that there are several classes
				m[i] = make([]frac.Frac, len(m))
				m[i][r.Intn(len(m))] = frac.Whole(1)
			}
		}
		ends := wantClasses(t, m)
		wantSteady(t, m, ends)
		wantEnds(t, m)
	}
}

// 3.4: a chance however small leads on, and long fractions stay exact.
func TestSteadyOfLongFractions(t *testing.T) {
	m := matrix(t, "999999999999999999999999/1000000000000000000000000 1/1000000000000000000000000;1/3 2/3")
	steady, err := chain.Steady(m)
	wantRow(t, "seldom", steady, err, "1000000000000000000000000/1000000000000000000000003 3/1000000000000000000000003")
	r := rand.New(rand.NewSource(6))
	long := make(chain.Matrix, api.MaxStates)
	for i := range long {
		long[i] = longRow(r, api.MaxStates, 40)
	}
	wantSteady(t, long, wantClasses(t, long))
	long[2], long[5] = unit(api.MaxStates)[2], unit(api.MaxStates)[5]
	wantSteady(t, long, wantClasses(t, long))
	wantEnds(t, long)
}

// P4: matrices are not written into, and no answer shares memory with them or with another one.
func TestAnswersAreFresh(t *testing.T) {
	text := "1/2 1/4 1/4 0; 0 1 0 0; 1/4 0 1/2 1/4; 0 0 0 1"
	m := matrix(t, text)
	if _, _, err := chain.Classes(m); err != nil {
		t.Error(err)
	}
	if _, err := chain.Steady(m[:]); err != api.ErrMany {
		t.Error(err)
	}
	ends, years, err := chain.Ends(m)
	if err != nil {
		t.Fatal(err)
	}
	if written(m) != text {
		t.Errorf("the matrix became %s", written(m))
	}
	first, second := written(ends), frac.Words(years)
	ends[0][0] = frac.Whole(7)
	ends[3] = append(ends[3][:0], ends[0]...)
	years[0] = frac.Whole(8)
	for i := range ends[1] {
		ends[1][i] = frac.Whole(9)
	}
	if frac.Words(ends[2]) != "0 1/3 0 2/3" || written(m) != text {
		t.Errorf("rows share memory: %s", written(ends))
	}
	again, yearsAgain, err := chain.Ends(m)
	if err != nil || written(again) != first || frac.Words(yearsAgain) != second {
		t.Errorf("asked again: %s, %s, %v", written(again), frac.Words(yearsAgain), err)
	}
	one := matrix(t, "0 1; 1 0")
	steady, err := chain.Steady(one)
	wantRow(t, "Steady", steady, err, "1/2 1/2")
	if written(one) != "0 1; 1 0" {
		t.Errorf("the matrix became %s", written(one))
	}
}

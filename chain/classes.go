package chain

// Classes are of each state the first one of its class (those that come behind each other), and whether its class is closed: nothing comes behind that is not of it.
func Classes(m Matrix) ([]int, []bool, error) {
	if err := Check(m); err != nil {
		return nil, nil, err
	}
	n := len(m)
	reached := make([][]bool, n)
	for i := range n {
		reached[i] = reach(m, i)
	}
	first := func(i int) int {
		for k := range i {
			if reached[i][k] && reached[k][i] {
				return k
			}
		}
		return i
	}
	stays := func(i int) bool {
		for k := range n {
			if reached[i][k] && !reached[k][i] {
				return false
			}
		}
		return true
	}
	of, closed := make([]int, n), make([]bool, n)
	for i := range n {
		of[i], closed[i] = first(i), stays(i)
	}
	return of, closed, nil
}

// reach tells of each state whether it can come behind one, over however many years.
func reach(m Matrix, from int) []bool {
	seen := make([]bool, len(m))
	var visit func(i int)
	visit = func(i int) {
		seen[i] = true
		for k := range len(m) {
			if !seen[k] && m[i][k].Sign() > 0 {
				visit(k)
			}
		}
	}
	visit(from)
	return seen
}

package joint

import (
	"tontine/frac"
	"tontine/whole"
)

// share is how likely one lives at a time: in how many ways of how many. (Whole numbers, since fractions would be lowered at each step, which takes far longer once they have grown.)
type share struct {
	live, of frac.Frac
	grown    frac.Frac // there are so many times as many ways as a year ahead
}

// behind are the shares so many years later.
func behind(l []Life, years int) []share {
	out := make([]share, len(l))
	for i, x := range l {
		lives, _ := x.Table.P(x.Age, years)
		of := whole.Common([]frac.Frac{lives})
		out[i] = share{live: lives.Mul(of), of: of}
	}
	return out
}

// courses are the shares at each of so many times, from now on.
func courses(l []Life, times int) [][]share {
	out := make([][]share, times)
	for time := range times {
		out[time] = make([]share, len(l))
		for i, x := range l {
			if time == 0 {
				out[time][i] = share{frac.Whole(1), frac.Whole(1), frac.Whole(1)}
			} else {
				out[time][i] = out[time-1][i].later(x, time-1)
			}
		}
	}
	return out
}

// later is a life's share a year later than the one so many years on.
func (s share) later(x Life, years int) share {
	dies, _ := x.Table.Q(x.Age + years) // where that is too great to be said, they are dead, and it does not count
	live := s.live.Mul(frac.Whole(1).Sub(dies))
	grown := whole.Common([]frac.Frac{live})
	return share{live.Mul(grown), s.of.Mul(grown), grown}
}

// longest is behind how many years nobody lives any more.
func longest(l []Life) int {
	years := 1
	for _, x := range l {
		_, to := x.Table.Ages()
		years = max(years, to-x.Age+1)
	}
	return years
}

// under is the number of all ways in which lives may fare.
func under(l []share) frac.Frac {
	all := frac.Whole(1)
	for _, s := range l {
		all = all.Mul(s.of)
	}
	return all
}

// grown is how many times as many ways there are as a year ahead.
func grown(l []share) frac.Frac {
	times := frac.Whole(1)
	for _, s := range l {
		times = times.Mul(s.grown)
	}
	return times
}

// counts are, of each number from 0 to all, the ways in which so many live.
func counts(l []share) []frac.Frac {
	ways := []frac.Frac{frac.Whole(1)}
	for _, s := range l {
		dead := s.of.Sub(s.live)
		next := make([]frac.Frac, len(ways)+1)
		for n, w := range ways {
			next[n] = next[n].Add(w.Mul(dead))
			next[n+1] = w.Mul(s.live)
		}
		ways = next
	}
	return ways
}

// atLeast are the ways in which at least so many live.
func atLeast(l []share, least int) frac.Frac {
	var sum frac.Frac
	for _, w := range counts(l)[least:] {
		sum = sum.Add(w)
	}
	return sum
}

// weighed is the sum of how likely at least so many live at each time, from now on, times its weight.
func weighed(l []Life, least int, weights []frac.Frac) frac.Frac {
	if len(weights) == 0 {
		return frac.Frac{}
	}
	common := whole.Common(weights)
	weights = whole.Times(weights, common)
	times := courses(l, len(weights))
	var over frac.Frac
	for time := range len(weights) {
		now := times[time]
		over = over.Mul(grown(now)).Add(atLeast(now, least).Mul(weights[time]))
	}
	return quotient(over, common.Mul(under(times[len(times)-1])))
}

// quotient is one where nothing is divided by 0.
func quotient(f, g frac.Frac) frac.Frac {
	q, _ := f.Div(g)
	return q
}

// divided are fractions, each divided by a number that is not 0.
func divided(l []frac.Frac, by frac.Frac) []frac.Frac {
	out := make([]frac.Frac, len(l))
	for i, f := range l {
		out[i] = quotient(f, by)
	}
	return out
}

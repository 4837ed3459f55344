package joint

import (
	"slices"

	"tontine/frac"
	"tontine/whole"
)

// turns are, of each, how likely they die at a place: the sum over the years in which they may.
func turns(l []Life, place int) []frac.Frac {
	years := longest(l)
	times := courses(l, years+1)
	parts, common := partsOf(len(l))
	over := make([]frac.Frac, len(l))
	for year := range years {
		more := grown(times[year+1])
		for i, n := range taken(fatesOf(times[year], times[year+1]), place, parts) {
			over[i] = over[i].Mul(more).Add(n)
		}
	}
	return divided(over, under(times[years]).Mul(common))
}

// partsOf are what each of 1, 2 and so on up to so many who die in one year has of a place: whole numbers, and what they are of.
func partsOf(most int) (parts []frac.Frac, common frac.Frac) {
	for n := range most {
		parts = append(parts, quotient(frac.Whole(1), frac.Whole(n+1)))
	}
	common = whole.Common(parts)
	return whole.Times(parts, common), common
}

// fate is in how many ways one is gone ahead of a year, goes within it, or stays beyond it.
type fate struct{ gone, goes, stays frac.Frac }

// fatesOf are those of a year, by the shares at its beginning and at its end.
func fatesOf(beginning, end []share) []fate {
	out := make([]fate, len(end))
	for i, s := range end {
		live := beginning[i].live.Mul(s.grown)
		out[i] = fate{s.of.Sub(live), live.Sub(s.live), s.live}
	}
	return out
}

// taken are, of each, the ways in which they go within a year and have the place. Those ahead of them in the list are put together with those behind them, since both are so reckoned once for all.
func taken(l []fate, place int, parts []frac.Frac) []frac.Frac {
	ahead := make([]ways, len(l))
	ahead[0] = room(place, len(l))
	ahead[0][0][0] = frac.Whole(1)
	for i := range len(l) - 1 {
		ahead[i+1] = ahead[i].with(l[i])
	}
	behind := room(place, len(l))
	for gone, row := range behind { // what is left of the room is for those who go, too: the more there are, the less each has of the place
		copy(row, parts[gone:])
	}
	out := make([]frac.Frac, len(l))
	for i, f := range slices.Backward(l) {
		out[i] = f.goes.Mul(ahead[i].filled(behind))
		if i > 0 {
			behind = behind.with(f)
		}
	}
	return out
}

// ways tell of some, by how many of them are gone ahead of a year, and how many stay beyond it, in how many ways that may be.
type ways [][]frac.Frac

// room is for as many gone ones as may be ahead of a place, and as many who stay as may be behind it.
func room(place, lives int) ways {
	w := make(ways, place)
	for gone := range place {
		w[gone] = make([]frac.Frac, lives-place+1)
	}
	return w
}

// with are the ways with one more, as far as there is room.
func (w ways) with(f fate) ways {
	next := room(len(w), len(w)+len(w[0])-1)
	for gone, row := range w {
		for stays, n := range row {
			if n.Sign() == 0 {
				continue
			}
			next[gone][stays] = next[gone][stays].Add(n.Mul(f.goes))
			if gone+1 < len(w) {
				next[gone+1][stays] = next[gone+1][stays].Add(n.Mul(f.gone))
			}
			if stays+1 < len(row) {
				next[gone][stays+1] = next[gone][stays+1].Add(n.Mul(f.stays))
			}
		}
	}
	return next
}

// filled are the ways in which others fill up the room that some leave.
func (w ways) filled(others ways) frac.Frac {
	var sum frac.Frac
	for gone, row := range w {
		for stays, n := range row {
			if n.Sign() > 0 {
				sum = sum.Add(n.Mul(others[len(w)-1-gone][len(row)-1-stays]))
			}
		}
	}
	return sum
}

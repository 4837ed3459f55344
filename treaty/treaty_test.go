package treaty_test

import (
	"testing"

	"tontine/frac"
	"tontine/treaty"
)

// 13.1: the kinds are counted from 1 on.
func TestKinds(t *testing.T) {
	if treaty.Cede != 1 || treaty.Surplus != 2 || treaty.Excess != 3 || treaty.Stop != 4 {
		t.Error("the kinds have other numbers")
	}
}

// 13.1: what is said of treaties that may not be, in its order; by all that check.
func TestAmiss(t *testing.T) {
	one := []treaty.Claim{{Sum: 1, Amount: 1}}
	amiss := []treaty.Claim{{Sum: 0, Amount: 1}}
	for _, c := range amissTreaties(t) {
		wantError(t, "Check: "+c.what, treaty.Check(c.l), c.e)
		for _, claims := range [][]treaty.Claim{nil, one, amiss, make([]treaty.Claim, 60000)} {
			result, err := treaty.Apply(c.l, claims)
			wantError(t, "Apply: "+c.what, err, c.e, result)
		}
		text, err := treaty.Text(c.l)
		wantError(t, "Text: "+c.what, err, c.e, text)
	}
}

// 13.1: treaties at the edges may be.
func TestGood(t *testing.T) {
	for _, l := range goodTreaties(t) {
		if err := treaty.Check(l); err != nil {
			t.Errorf("%s: %v", written(l), err)
		}
		if _, err := treaty.Apply(l, nil); err != nil {
			t.Errorf("%s: %v", written(l), err)
		}
	}
}

// 13.1: a share may have any number of digits.
func TestLongShare(t *testing.T) {
	share, err := one(t, "999999999999/1000000000001").Pow(200)
	if err != nil {
		t.Fatal(err)
	}
	l := []treaty.Line{{Kind: treaty.Cede, Share: share, To: "a"}}
	if err := treaty.Check(l); err != nil {
		t.Error(err)
	}
	l[0].Share = frac.Whole(2).Sub(share)
	wantError(t, "above 1", treaty.Check(l), 1)
	l[0].Share = share.Neg()
	wantError(t, "below 0", treaty.Check(l), 1)
}

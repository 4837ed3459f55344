package claims

import "tontine/frac"

// Stop is the mean of what is beyond an amount.
func Stop(l Law, from int) (frac.Frac, error) {
	if err := Check(l); err != nil {
		return frac.Frac{}, err
	}
	if err := checkSize(from); err != nil {
		return frac.Frac{}, err
	}
	return mean(l, func(amount int) int { return max(amount-from, 0) }), nil
}

// Layer is the law of what is beyond an amount, at most so much.
func Layer(l Law, from, width int) (Law, error) {
	if err := Check(l); err != nil {
		return nil, err
	}
	if err := checkSize(from); err != nil {
		return nil, err
	}
	if err := checkSize(width); err != nil {
		return nil, err
	}
	within := func(amount int) int { return min(max(amount-from, 0), width) }
	out := make(Law, within(greatest(l))+1)
	for amount, chance := range short(l) {
		out[within(amount)] = out[within(amount)].Add(chance)
	}
	return out, nil
}

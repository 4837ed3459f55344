package policy

import (
	"tontine/api"
	"tontine/table"
)

// check says whether an event may be, whatever was told ahead of it.
func (e Event) check() error {
	switch {
	case !table.Name(e.Id) || !table.Name(e.Policy):
		return api.ErrName
	case e.Kind < Open || e.Kind > Annul:
		return api.ErrArg
	case e.Day < 0 || e.Day > lastDay || e.Amount < 0 || e.Amount > mostAmount:
		return api.ErrRange
	case !e.refMayBe() || !e.amountMayBe():
		return api.ErrArg
	}
	return nil
}

// refMayBe tells whether there is a Ref just where the kind has one: from Claim on.
func (e Event) refMayBe() bool {
	if e.Kind >= Claim {
		return table.Name(e.Ref)
	}
	return e.Ref == ""
}

// amountMayBe tells whether there is no Amount where the kind has none.
func (e Event) amountMayBe() bool {
	switch e.Kind {
	case Close, Settle, Annul:
		return e.Amount == 0
	}
	return true
}

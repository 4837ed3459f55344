package desk

import (
	"errors"
	"testing"

	"tontine/api"
)

// What is thrown is told by its number; what is no error of a line's is caught, too, and has the number -1.
func TestThrown(t *testing.T) {
	for _, c := range []struct {
		what any
		text string
	}{
		{api.ErrForm, "error 3"}, {api.ErrMoney, "error 15"}, {"a fault", "error -1"}, {errors.New("another one"), "error -1"},
	} {
		h := newHouse()
		h.does["fault"] = func([]string) string { panic(c.what) }
		if got := h.answer("fault"); got != c.text {
			t.Errorf("%v: %q, not %q", c.what, got, c.text)
		}
		if got := h.answer("split 3 1 2"); got != "1 2" {
			t.Errorf("behind %v: %q", c.what, got)
		}
	}
}

// An error at a place is thrown as its number alone.
func TestThrow(t *testing.T) {
	defer func() {
		if thrown := recover(); thrown != api.ErrSum {
			t.Errorf("%v", thrown)
		}
	}()
	throw(nil)
	throw(&api.At{Err: api.ErrSum, Place: 7})
	t.Error("nothing is thrown")
}

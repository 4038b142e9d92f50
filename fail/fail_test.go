package fail_test

import (
	"testing"

	"torpor/api"
	"torpor/fail"
)

// P4.1, P13.1: an error ends the reading at once, from however deep within, and is caught as it is.
func TestCaught(t *testing.T) {
	for e := api.ErrArg; e <= api.ErrBase; e++ {
		var deep func(n int)
		deep = func(n int) {
			if n == 0 {
				fail.If(e)
				t.Error("goes on behind", int(e))
			}
			deep(n - 1)
		}
		if got := fail.Caught(func() { deep(9) }); got != e {
			t.Errorf("If(%d): %d", int(e), int(got))
		}
		if got := fail.Caught(func() { fail.With(e) }); got != e {
			t.Errorf("With(%d): %d", int(e), int(got))
		}
	}
}

// P4.1, P13.1: where all is right the reading goes on to its end.
func TestGoesOn(t *testing.T) {
	n := 0
	e := fail.Caught(func() {
		for range 3 {
			fail.If(api.OK)
			n++
		}
	})
	if e != api.OK || n != 3 {
		t.Error(int(e), n)
	}
}

// P4.1, P13.1: of two readings, one within the other, just the one that is wrong ends.
func TestWithin(t *testing.T) {
	e := fail.Caught(func() {
		if e := fail.Caught(func() { fail.With(api.ErrShort) }); e != api.ErrShort {
			t.Error("within:", int(e))
		}
		fail.With(api.ErrSum)
	})
	if e != api.ErrSum {
		t.Error(int(e))
	}
}

// P4.1, P13.1: another panic is not taken for an error, also one with an error's number.
func TestOthersGoOn(t *testing.T) {
	for _, what := range []any{"text", 4, api.ErrForm} {
		got := func() (got any) {
			defer func() { got = recover() }()
			fail.Caught(func() { panic(what) })
			return nil
		}()
		if got != what {
			t.Errorf("%v goes on as %v", what, got)
		}
	}
}

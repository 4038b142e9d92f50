package cond_test

import (
	"slices"
	"testing"

	"torpor/api"
	"torpor/cond"
	"torpor/trial"
)

// P19.1: Signal and All, of each list, and of objects of any kind, also such as may not be, and of which nothing is told.
func TestTelling(t *testing.T) {
	for _, c := range []trial.Call{signal(), all()} {
		for _, from := range froms() {
			for _, n := range lists(from) {
				c.Check(t, condition(n), api.Frame{})
				c.Check(t, api.Obj{Kind: api.KindCond, Notify: n}, api.Frame{})
			}
		}
		for kind := -1; kind <= 7; kind++ {
			for _, o := range trial.Objects(kind, words(9)) {
				c.Check(t, o, api.Frame{})
			}
		}
		c.Check(t, api.Obj{}, api.Frame{})
	}
}

// checkTelling holds a call against an answer that is told.
func checkTelling(t *testing.T, c trial.Call, n, behind api.Notify, a api.Act) {
	t.Helper()
	o := condition(n)
	x := trial.Answer{O: with(o, behind), A: a}
	c.CheckRow(t, trial.Row{O: o, Want: x})
	if !c.Want(o, api.Frame{}).Same(x) {
		t.Errorf("%s of %v: told is %+v, wanted %+v", c.Name, o, x, c.Want(o, api.Frame{}))
	}
}

// P19.1: Signal, by answers written out: nobody waits with the ticket that is told, one does, one of many does, wherever he stands.
func TestSignal(t *testing.T) {
	for _, from := range froms() {
		at := func(i uint32, task int) api.Waiter { return waiter(from+i, task) }
		for _, k := range []struct {
			n    api.Notify
			wake []int
			left []api.Waiter
		}{
			{listOf(from, 1), nil, nil},
			{listOf(from, 1000), nil, nil},
			{listOf(from, 2, at(1, 6)), nil, []api.Waiter{at(1, 6)}},
			{listOf(from, 5, at(4, 0), at(1, 2)), nil, []api.Waiter{at(4, 0), at(1, 2)}},
			{listOf(from, 13, waiting(from+1, 12)...), nil, waiting(from+1, 12)},
			{listOf(from, 1, at(0, 6)), []int{6}, nil},
			{listOf(from, 1, at(0, 0)), []int{0}, nil},
			{listOf(from, 1000, at(0, 1<<40)), []int{1 << 40}, nil},
			{listOf(from, 4, at(0, 8), at(3, 2), at(1, 5)), []int{8}, []api.Waiter{at(3, 2), at(1, 5)}},
			{listOf(from, 4, at(2, 8), at(0, 2), at(1, 5)), []int{2}, []api.Waiter{at(2, 8), at(1, 5)}},
			{listOf(from, 4, at(3, 8), at(2, 2), at(0, 5)), []int{5}, []api.Waiter{at(3, 8), at(2, 2)}},
			{listOf(from, 12, waiting(from, 12)...), []int{100}, waiting(from, 12)[1:]},
		} {
			behind := api.Notify{Wait: k.n.Wait, Told: from + 1, Waiters: k.left}
			checkTelling(t, signal(), k.n, behind, api.Act{Done: true, Wake: k.wake})
		}
		// Of no ticket that is out it is done, and that is all.
		checkTelling(t, signal(), listOf(from, 0), listOf(from, 0), api.Act{Done: true})
	}
}

// P19.1: All, by answers written out: nobody waits, one does, many do, who are told as they came.
func TestAll(t *testing.T) {
	for _, from := range froms() {
		at := func(i uint32, task int) api.Waiter { return waiter(from+i, task) }
		for _, k := range []struct {
			n    api.Notify
			wake []int
		}{
			{listOf(from, 0), nil},
			{listOf(from, 1), nil},
			{listOf(from, 1000), nil},
			{listOf(from, 1, at(0, 0)), []int{0}},
			{listOf(from, 3, at(1, 7)), []int{7}},
			{listOf(from, 1000, at(999, 4), at(0, 9), at(7, 0), at(3, 5)), []int{4, 9, 0, 5}},
			{listOf(from, 12, waiting(from, 12)...), []int{100, 101, 102, 103, 104, 105, 106, 107, 108, 109, 110, 111}},
		} {
			checkTelling(t, all(), k.n, listOf(k.n.Wait, 0), api.Act{Done: true, Wake: k.wake})
		}
	}
}

// P19.1: of a list that may not be both are FaultRoom, and nothing is changed.
func TestTellingWrongLists(t *testing.T) {
	for _, from := range froms() {
		for _, n := range wrongLists(from) {
			for _, c := range []trial.Call{signal(), all()} {
				checkTelling(t, c, n, n, api.Act{Fault: api.FaultRoom})
			}
		}
	}
}

// P19.1: who is told is a list of the caller's own.
func TestWakeStays(t *testing.T) {
	for _, tell := range []func(api.Obj) (api.Obj, api.Act){cond.Signal, cond.All} {
		o := condition(listOf(greatest, 3, waiter(greatest, 6), waiter(1, 4)))
		_, a := tell(o)
		_, b := tell(o)
		was := slices.Clone(a.Wake)
		spare := b.Wake[:cap(b.Wake)]
		for i := range spare {
			spare[i] = 97
		}
		_, c := tell(o)
		if !slices.Equal(a.Wake, was) || !slices.Equal(c.Wake, was) || was[0] != 6 {
			t.Errorf("who is told: %v, then %v", a.Wake, c.Wake)
		}
	}
}

package step_test

import (
	"testing"

	"torpor/api"
	"torpor/step"
	"torpor/trial"
)

// objects are objects with lists, and without.
func objects() []api.Obj {
	return []api.Obj{
		{},
		{Kind: api.KindMutex, W: [6]int64{1, 2, 3, 4, 5, 6}},
		{Kind: -1, W: [6]int64{5: -1}, Notify: api.Notify{Wait: 7, Told: 5, Waiters: []api.Waiter{{Ticket: 6, Task: 1}, {Ticket: 5, Task: 2}}}},
		{Kind: api.KindWeight, W: [6]int64{9}, Notify: api.Notify{Wait: 3, Waiters: []api.Waiter{{}}}, Line: []api.Claim{{Task: 3, N: 8}, {Task: -4, N: -9}}},
		{Notify: api.Notify{Waiters: []api.Waiter{}}, Line: []api.Claim{}},
	}
}

// same looks whether a call answers an object as it is, and that.
func same(t *testing.T, name string, call func(o api.Obj) trial.Answer, a api.Act) {
	t.Helper()
	for _, o := range objects() {
		want := trial.Answer{O: o, A: a}
		if got := call(o); !got.Same(want) {
			t.Errorf("%s: %+v, not %+v", name, got, want)
		}
	}
}

// P15.1, P16.1: an object of one's own is the same one, but none of its lists is shared.
func TestOwn(t *testing.T) {
	c := trial.Call{Name: "Own", Step: func(o api.Obj, f api.Frame) trial.Answer { return trial.Of(step.Own(o), f, api.Act{}) }}
	for _, o := range objects() {
		c.CheckRow(t, trial.Row{O: o, Want: trial.Answer{O: o}})
		got := []api.Obj{step.Own(o), step.Own(o), step.Own(step.Own(o))}
		trial.Apart(t, "Own", got)
	}
}

// P15.1, P16.1: what is done leaves an empty frame, and asks for nothing else.
func TestDone(t *testing.T) {
	same(t, "Done", func(o api.Obj) trial.Answer { return trial.Of(step.Done(o)) }, api.Act{Done: true})
}

// P15.1, P16.1: a fault leaves an empty frame, too, and isn't done.
func TestFault(t *testing.T) {
	for x := api.NoFault; x <= api.FaultTasks; x++ {
		same(t, "Fault", func(o api.Obj) trial.Answer { return trial.Of(step.Fault(o, x)) }, api.Act{Fault: x})
	}
}

// P16.1, P18.1: where a step is done the next frame begins, and no more is asked for than what it gives; what isn't done, and a fault, stays as it is.
func TestThen(t *testing.T) {
	next, f := api.Frame{Op: 30, Stage: 1, Since: -1}, trial.Odd(0)
	for _, k := range []struct {
		a, want api.Act
		g       api.Frame
	}{
		{api.Act{}, api.Act{}, f},
		{api.Act{Give: 4}, api.Act{Give: 4}, f},
		{api.Act{Fault: api.FaultUnlock}, api.Act{Fault: api.FaultUnlock}, f},
		{api.Act{Park: true, Hand: true, Give: 2, Value: 3, Wake: []int{1}}, api.Act{Park: true, Hand: true, Give: 2, Value: 3, Wake: []int{1}}, f},
		{api.Act{Done: true}, api.Act{}, next},
		{api.Act{Done: true, Give: 2}, api.Act{Give: 2}, next},
		{api.Act{Done: true, Give: 2, Hand: true}, api.Act{Give: 2, Hand: true}, next},
		{api.Act{Done: true, Value: 1}, api.Act{}, next},
	} {
		for _, o := range objects() {
			want := trial.Answer{O: o, F: k.g, A: k.want}
			if got := trial.Of(step.Then(next, o, f, k.a)); !got.Same(want) {
				t.Errorf("behind %+v: %+v, not %+v", k.a, got, want)
			}
		}
	}
}

package mutex_test

import (
	"testing"

	"torpor/api"
	"torpor/mutex"
	"torpor/trial"
)

// crowd is tasks that lock and unlock one mutex.
type crowd struct {
	trial.Crowd
	patience int64
	// holder is who has locked it, and next to whom it was given hand to hand; -1: nobody.
	holder, next int
}

func crowdOf(n, rounds int, patience int64) crowd {
	return crowd{Crowd: trial.NewCrowd(n, rounds), patience: patience, holder: -1, next: -1}
}

// rules are what holds of crowds.
func rules() trial.Rules[crowd] {
	return trial.Rules[crowd]{Base: (*crowd).Base, Step: (*crowd).step, Look: (*crowd).look, AtEnd: (*crowd).atEnd}
}

// step is a step of a task that is ready.
func (c *crowd) step(t trial.T, i int, m trial.Met) {
	w := &c.Tasks[i]
	switch {
	case w.Frame.Need != 0:
		c.Acquire(i, m)
	case c.holder == i || w.Frame.Op == api.OpUnlock:
		c.unlock(t, i, m)
	default:
		c.lock(t, i, m)
	}
}

func (c *crowd) lock(t trial.T, i int, m trial.Met) {
	w := &c.Tasks[i]
	if w.Frame.Op == 0 {
		w.Frame = mutex.Begin(api.OpLock)
	}
	phase := w.Frame.Phase
	// Who was handed a mutex finds it as it was left: not locked, and itself among those who wait.
	if phase == 4 && (c.holder >= 0 || bit(c.W[0], 1) || !bit(c.W[0], 2) || down(c.W[0]) < 1) {
		t.Fatalf("task %d was handed %d", i, c.W[0])
	}
	o, f, a := mutex.Lock(api.Obj{W: c.W}, w.Frame, c.Now, c.patience)
	c.W, w.Frame = o.W, f
	m["lock "+string(rune('0'+phase))]++
	if phase == 2 && f.Phase == 1 {
		m["come too late"]++
	}
	if !a.Done {
		return
	}
	if c.holder >= 0 || c.next >= 0 && c.next != i || f != (api.Frame{}) {
		t.Fatalf("task %d has it, it was task %d's; next is %d", i, c.holder, c.next)
	}
	c.holder, c.next = i, -1
}

func (c *crowd) unlock(t trial.T, i int, m trial.Met) {
	w := &c.Tasks[i]
	if w.Frame.Op == 0 {
		w.Frame = mutex.Begin(api.OpUnlock)
	}
	phase := w.Frame.Phase
	o, f, a := mutex.Unlock(api.Obj{W: c.W}, w.Frame)
	c.W, w.Frame = o.W, f
	m["unlock "+string(rune('0'+phase))]++
	if phase == 0 {
		c.holder = -1
	}
	if phase == 1 && f.Phase == 1 {
		m["wake too late"]++
	}
	if a.Fault != api.NoFault || a.Park || a.Give != 0 && a.Give != 2 || a.Hand && a.Give != 2 {
		t.Fatalf("task %d: %+v", i, a)
	}
	if a.Give != 0 {
		if to := c.Give(a, m); a.Hand {
			c.next = to
		}
	}
	if a.Done {
		w.Rounds--
	}
}

// look looks whether it is locked just where a task has it, and whether an unlocking that begins now is a fault just where none has.
func (c *crowd) look(t trial.T) {
	if mutex.Locked(api.Obj{W: c.W}) != (c.holder >= 0) {
		t.Fatalf("the state is %d, and task %d has it", c.W[0], c.holder)
	}
	o, f, a := mutex.Unlock(api.Obj{W: c.W}, mutex.Begin(api.OpUnlock))
	if fault := a.Fault == api.FaultUnlock; fault != (c.holder < 0) || fault && (o.W != c.W || f != (api.Frame{})) {
		t.Fatalf("unlocking of %d, which task %d has: %d %+v", c.W[0], c.holder, o.W[0], a)
	}
}

// atEnd looks whether, when all is done, the mutex is as it was at first.
func (c *crowd) atEnd(t trial.T) {
	if c.W != [6]int64{} || c.Waiting(1) != 0 || c.holder >= 0 {
		t.Fatalf("all is done, and it is %+v", *c)
	}
}

// allMet looks whether each thing came to be that can.
func allMet(t *testing.T, m trial.Met) {
	t.Helper()
	m.All(t, "lock 0", "lock 1", "lock 2", "lock 3", "lock 4", "unlock 0", "unlock 1", "unlock 2", "unlock 3")
	m.All(t, "come too late", "wake too late", "parked", "front", "got", "woken", "handed", "given to nobody")
}

// P15.2: tasks that lock and unlock in any order: one has it at a time, each comes to its end, and what is given hand to hand is locked next by whom it was given to.
func TestInAnyOrder(t *testing.T) {
	m := trial.Met{}
	for seed := range 400 {
		rules().InAnyOrder(t, crowdOf(1+seed%trial.Most, 20, int64(seed/7%5)*10-1), uint64(seed), m)
	}
	allMet(t, m)
}

// P15.2: a few tasks, in all orders that there are: while nobody starves, while all do, and where the clock goes on between.
func TestInAllOrders(t *testing.T) {
	m := trial.Met{}
	for _, k := range []struct {
		n, rounds        int
		patience, latest int64
	}{
		{1, 3, 0, 1}, {2, 3, 0, 0}, {2, 3, -1, 0}, {2, 3, 0, 1}, {3, 1, 0, 1}, {3, 2, 0, 0}, {3, 2, -1, 0}, {4, 1, 0, 0}, {4, 1, -1, 0},
	} {
		n := rules().InAllOrders(t, crowdOf(k.n, k.rounds, k.patience), k.latest, m)
		t.Logf("%+v: %d", k, n)
	}
	allMet(t, m)
}

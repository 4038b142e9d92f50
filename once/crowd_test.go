package once_test

import (
	"strconv"
	"testing"

	"torpor/api"
	"torpor/mutex"
	"torpor/once"
	"torpor/trial"
)

// crowd is tasks that come over and over to what is done once.
type crowd struct {
	trial.Crowd
	patience int64
	// holder is who has locked the mutex, and doer who was told to do it, and hasn't done it yet; -1: nobody.
	holder, doer int
	// told: was one told to do it? over: is it done?
	told, over bool
}

func crowdOf(n, rounds int, patience int64) crowd {
	return crowd{Crowd: trial.NewCrowd(n, rounds), patience: patience, holder: -1, doer: -1}
}

// rules are what holds of crowds.
func rules() trial.Rules[crowd] {
	return trial.Rules[crowd]{Base: (*crowd).Base, Step: (*crowd).step, Look: (*crowd).look, AtEnd: (*crowd).atEnd}
}

// next is the frame of what a task does next.
func (c *crowd) next(i int) api.Frame {
	if c.doer == i {
		return begin(api.OpOnceEnd)
	}
	return begin(api.OpOnce)
}

// step is a step of a task that is ready.
func (c *crowd) step(t trial.T, i int, m trial.Met) {
	f, ok := c.Going(i, c.next(i), m)
	if !ok {
		return
	}
	o, x := api.Obj{W: c.W}, trial.Answer{}
	if f.Op == api.OpOnce {
		x = trial.Of(once.Once(o, f, c.Now, c.patience))
		c.come(t, i, f, x, m)
	} else {
		x = trial.Of(once.End(o, f))
		c.end(t, i, f, x)
	}
	m[strconv.Itoa(f.Op)+" stage "+strconv.Itoa(f.Stage)]++
	m["gives "+strconv.Itoa(x.A.Give)]++
	if x.A.Fault != api.NoFault || x.A.Park || x.A.Give != 0 && (x.A.Give != 2 || !x.A.Done) || x.A.Hand && x.A.Give != 2 {
		t.Fatalf("task %d: %+v", i, x.A)
	}
	c.Made(i, x, m)
	if x.A.Done && c.doer != i {
		c.Tasks[i].Rounds--
	}
}

// come is what comes of a step of one who comes: before it is done just one goes on, who is told to do it; behind that each does, and whoever comes then by one step.
func (c *crowd) come(t trial.T, i int, f api.Frame, x trial.Answer, m trial.Met) {
	switch {
	case f.Stage == 0 && x.A.Done != c.over:
		t.Fatalf("task %d comes: %+v, of %+v", i, x, *c)
	case f.Stage == 1 && x.F.Stage == 2:
		if c.holder >= 0 {
			t.Fatalf("task %d has it, and so has task %d", i, c.holder)
		}
		c.holder = i
	case f.Stage == 3 && f.Phase == 0:
		c.holder = -1
	}
	if !x.A.Done {
		return
	}
	switch x.A.Value {
	case 1:
		if c.told || c.holder != i {
			t.Fatalf("task %d is told to do it: %+v", i, *c)
		}
		c.told, c.doer = true, i
	case 0:
		if !c.over {
			t.Fatalf("task %d goes on before it is done: %+v", i, *c)
		}
		if f.Stage == 3 {
			m["waited"]++
		}
	default:
		t.Fatalf("task %d is told %d", i, x.A.Value)
	}
}

// end is what comes of a step of who has done it.
func (c *crowd) end(t trial.T, i int, f api.Frame, x trial.Answer) {
	if f.Stage == 0 {
		c.over, c.doer = true, -1
	}
	if f.Stage == 1 && f.Phase == 0 {
		c.holder = -1
	}
	if x.A.Value != 0 || f.Stage == 0 && x.A.Done {
		t.Fatalf("task %d has done it: %+v", i, x)
	}
}

// look looks whether it is over just where it was done, whether it is locked just where a task has it, and whether one who comes now goes on at once just where it is done, and one who ends now is at fault just where nobody has it.
func (c *crowd) look(t trial.T) {
	o := api.Obj{W: c.W}
	if once.Over(o) != c.over || mutex.Locked(o) != (c.holder >= 0) || c.doer >= 0 && c.holder != c.doer {
		t.Fatalf("over: %v, of %+v", once.Over(o), *c)
	}
	x, _, a := once.Once(o, begin(api.OpOnce), c.Now, c.patience)
	if a.Done != c.over || a.Value != 0 || x.W != c.W {
		t.Fatalf("one comes: %v %+v, of %+v", x, a, *c)
	}
	x, f, a := once.End(o, begin(api.OpOnceEnd))
	if fault := a.Fault == api.FaultUnlock; fault != (c.holder < 0) || fault && (x.W != c.W || f != (api.Frame{})) {
		t.Fatalf("one ends: %v %+v, of %+v", x, a, *c)
	}
}

// atEnd looks whether, when all have gone on, it was done, and nobody has the mutex, or waits for it.
func (c *crowd) atEnd(t trial.T) {
	if c.W != [6]int64{2: 1} || c.Waiting(1) != 0 || !c.told || !c.over || c.holder >= 0 {
		t.Fatalf("all have gone on, and it is %+v", *c)
	}
}

// allMet looks whether each stage was met, and whatever can come of tasks that meet each other.
func allMet(t *testing.T, m trial.Met) {
	t.Helper()
	m.All(t, "34 stage 0", "34 stage 1", "34 stage 2", "34 stage 3", "35 stage 0", "35 stage 1")
	m.All(t, "waited", "gives 2", "parked", "front", "got", "woken", "handed", "given to nobody")
}

// P18.2: tasks that come over and over, in any order: just one is told 1, nobody else goes on till it is done, and behind that each is told 0, and comes to its end.
func TestInAnyOrder(t *testing.T) {
	m := trial.Met{}
	for seed := range 3000 {
		rules().InAnyOrder(t, crowdOf(1+seed%trial.Most, 1+seed%4, int64(seed/7%5)*10-1), uint64(seed), m)
	}
	allMet(t, m)
}

// P18.2: a few tasks, in all orders that there are: while nobody starves, while all do, and where the clock goes on between.
func TestInAllOrders(t *testing.T) {
	m := trial.Met{}
	for _, k := range []struct {
		n, rounds        int
		patience, latest int64
	}{
		{1, 3, 0, 1}, {2, 3, 0, 0}, {2, 3, -1, 0}, {2, 2, 0, 1}, {3, 2, 0, 0}, {3, 2, -1, 0}, {3, 1, 0, 1}, {4, 1, 0, 0}, {4, 1, -1, 0},
	} {
		n := rules().InAllOrders(t, crowdOf(k.n, k.rounds, k.patience), k.latest, m)
		t.Logf("%+v: %d", k, n)
	}
	allMet(t, m)
}

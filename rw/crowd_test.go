package rw_test

import (
	"strconv"
	"testing"

	"torpor/api"
	"torpor/mutex"
	"torpor/rw"
	"torpor/trial"
)

// Where a task is.
const (
	away    = iota
	counted // among the readers, but not in
	reads
	announced // the writer who has come, but isn't in
	writes
)

// crowd is tasks that read and write by turns, with one lock.
type crowd struct {
	trial.Crowd
	patience int64
	// plans has a bit for each round that a task has left: does it write?
	plans [trial.Most]uint32
	where [trial.Most]int8
}

func crowdOf(rounds int, patience int64, plans ...uint32) crowd {
	c := crowd{Crowd: trial.NewCrowd(len(plans), rounds), patience: patience}
	copy(c.plans[:], plans)
	return c
}

// many is how many tasks are at one of these.
func (c *crowd) many(where ...int8) int {
	n := 0
	for i := range c.N {
		for _, w := range where {
			if c.where[i] == w {
				n++
			}
		}
	}
	return n
}

// writer: has one come, or is one in?
func (c *crowd) writer() bool {
	return c.many(announced, writes) > 0
}

// begin is the frame of what a task does next.
func (c *crowd) begin(i int) api.Frame {
	switch {
	case c.where[i] == reads:
		return mutex.Begin(api.OpRUnlock)
	case c.where[i] == writes:
		return mutex.Begin(api.OpWUnlock)
	case c.plans[i]&1 == 1:
		return mutex.Begin(api.OpWLock)
	}
	return mutex.Begin(api.OpRLock)
}

// rules are what holds of crowds.
func rules() trial.Rules[crowd] {
	return trial.Rules[crowd]{Base: (*crowd).Base, Step: (*crowd).step, Look: (*crowd).look, AtEnd: (*crowd).atEnd}
}

// step is a step of a task that is ready.
func (c *crowd) step(t trial.T, i int, m trial.Met) {
	f, ok := c.Going(i, c.begin(i), m)
	if !ok {
		return
	}
	o, x := api.Obj{W: c.W}, trial.Answer{}
	switch f.Op {
	case api.OpRLock:
		x = trial.Of(rw.RLock(o, f))
		c.read(t, i, f, x)
	case api.OpRUnlock:
		x = trial.Of(rw.RUnlock(o, f))
		c.leave(t, i, f, x)
	case api.OpWLock:
		x = trial.Of(rw.WLock(o, f, c.Now, c.patience))
		c.write(t, i, f, x)
	case api.OpWUnlock:
		x = trial.Of(rw.WUnlock(o, f))
		c.end(i, f, x)
	}
	m[strconv.Itoa(f.Op)+" stage "+strconv.Itoa(f.Stage)]++
	if x.A.Fault != api.NoFault || x.A.Park || x.A.Hand && x.A.Give != 2 {
		t.Fatalf("task %d: %+v", i, x.A)
	}
	c.Made(i, x, m)
	if c.W[5] < 0 {
		m["left before the writer waits"]++
	}
	m["gives "+strconv.Itoa(x.A.Give)]++
	if x.A.Done && c.where[i] == away {
		c.Tasks[i].Rounds--
		c.plans[i] >>= 1
	}
}

// read is what comes of a step of reading: while nobody writes one is enough; nobody is in with a writer.
func (c *crowd) read(t trial.T, i int, f api.Frame, x trial.Answer) {
	if f.Stage == 0 && x.A.Done == c.writer() {
		t.Fatalf("task %d comes to read: %+v", i, x)
	}
	c.where[i] = counted
	if !x.A.Done {
		return
	}
	if c.many(writes) != 0 {
		t.Fatalf("task %d reads, and one writes: %+v", i, *c)
	}
	c.where[i] = reads
}

// leave is what comes of a step of reading no more: while nobody writes one is enough.
func (c *crowd) leave(t trial.T, i int, f api.Frame, x trial.Answer) {
	if f.Stage == 0 && x.A.Done == c.writer() {
		t.Fatalf("task %d reads no more: %+v", i, x)
	}
	c.where[i] = away
}

// write is what comes of a step of writing: nobody is in with anybody else, and whom nobody is in the way of doesn't wait.
func (c *crowd) write(t trial.T, i int, f api.Frame, x trial.Answer) {
	if f.Stage == 1 {
		if c.writer() || x.A.Done != (c.many(counted, reads) == 0) {
			t.Fatalf("task %d comes to write: %+v", i, *c)
		}
		c.where[i] = announced
	}
	if !x.A.Done {
		return
	}
	if c.where[i] != announced || c.many(reads, writes) != 0 {
		t.Fatalf("task %d writes: %+v", i, *c)
	}
	c.where[i] = writes
}

// end is what comes of a step of writing no more.
func (c *crowd) end(i int, f api.Frame, x trial.Answer) {
	if f.Stage == 0 {
		c.where[i] = away
	}
}

// look looks whether the lock tells who is there, and whether one who unlocks now what it hasn't locked is at fault just where nobody has.
func (c *crowd) look(t trial.T) {
	o := api.Obj{W: c.W}
	here := c.many(counted, reads)
	if n, writer := rw.Readers(o); int(n) != here || writer != c.writer() {
		t.Fatalf("Readers: %d %v, of %+v", n, writer, *c)
	}
	_, _, a := rw.RUnlock(o, mutex.Begin(api.OpRUnlock))
	_, _, b := rw.WUnlock(o, mutex.Begin(api.OpWUnlock))
	if (a.Fault == api.FaultUnlock) != (here == 0) || (b.Fault == api.FaultUnlock) == c.writer() {
		t.Fatalf("%+v %+v, of %+v", a, b, *c)
	}
}

// atEnd looks whether, when all is done, the lock is as it was at first.
func (c *crowd) atEnd(t trial.T) {
	if c.W != [6]int64{} || c.Waiting(1) != 0 || c.Waiting(2) != 0 || c.Waiting(3) != 0 {
		t.Fatalf("all is done, and it is %+v", *c)
	}
}

// allMet looks whether each stage was met, and whatever can come of tasks that meet each other.
func allMet(t *testing.T, m trial.Met) {
	t.Helper()
	m.All(t, "28 stage 0", "28 stage 1", "29 stage 0", "29 stage 1", "29 stage 2", "30 stage 0", "30 stage 1", "30 stage 2", "30 stage 3")
	m.All(t, "31 stage 0", "31 stage 1", "31 stage 2", "gives 2", "gives 3", "gives 4", "left before the writer waits")
	m.All(t, "parked", "got", "woken", "given to nobody")
}

// P16.1, P16.2: tasks that read and write in any order: many are in, or one that writes, and each comes to its end.
func TestInAnyOrder(t *testing.T) {
	m := trial.Met{}
	for seed := range 600 {
		plans := make([]uint32, 1+seed%trial.Most)
		for i := range plans {
			plans[i] = uint32(seed*7919+i*104729) * 2654435761
			if seed%3 == 0 {
				// Readers are many, and writers few.
				plans[i] &= plans[i] >> 7 & plans[i] >> 13
			}
		}
		rules().InAnyOrder(t, crowdOf(20, int64(seed/7%5)*10-1, plans...), uint64(seed), m)
	}
	allMet(t, m)
	m.All(t, "front", "handed")
}

// P16.1, P16.2: a few tasks, in all orders that there are: some read, and some write, or each does by turns.
func TestInAllOrders(t *testing.T) {
	m := trial.Met{}
	for _, k := range []struct {
		rounds           int
		patience, latest int64
		plans            []uint32
	}{
		{3, 0, 0, []uint32{0}}, {3, 0, 0, []uint32{7}}, {3, 0, 0, []uint32{0, 0}}, {3, 0, 0, []uint32{0, 7}}, {2, 0, 0, []uint32{3, 3}}, {3, -1, 1, []uint32{2, 5}},
		{2, 0, 0, []uint32{0, 0, 3}}, {2, 0, 0, []uint32{1, 2, 0}}, {1, 0, 0, []uint32{0, 1, 1}}, {2, 0, 0, []uint32{1, 2, 3}}, {1, -1, 0, []uint32{1, 1, 1}},
		{1, 0, 0, []uint32{0, 0, 0, 1}}, {1, 0, 0, []uint32{0, 0, 1, 1}}, {1, -1, 0, []uint32{0, 1, 1, 1}}, {2, 0, 0, []uint32{0, 0, 0, 3}}, {3, -1, 0, []uint32{1, 2, 5}},
	} {
		n := rules().InAllOrders(t, crowdOf(k.rounds, k.patience, k.plans...), k.latest, m)
		t.Logf("%+v: %d", k, n)
	}
	allMet(t, m)
}

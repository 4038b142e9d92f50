package mutex_test

import (
	"testing"

	"torpor/api"
	"torpor/mutex"
)

// crowdMost is how many tasks a crowd has at most.
const crowdMost = 6

// worker is a task that locks, and unlocks, so many times more.
type worker struct {
	frame  api.Frame
	rounds int
	parked bool
}

// crowd is tasks with one mutex, whose semaphore is the number W[1] and a row of who waits for it. It has no lists, so that crowds are held against each other as a whole.
type crowd struct {
	w             [6]int64
	now, patience int64
	n             int
	tasks         [crowdMost]worker
	row           [crowdMost]int
	waits         int
	// holder is who has locked it, and next to whom it was given hand to hand; -1: nobody.
	holder, next int
}

func crowdOf(n, rounds int, patience int64) crowd {
	c := crowd{patience: patience, n: n, holder: -1, next: -1}
	for i := range n {
		c.tasks[i].rounds = rounds
	}
	return c
}

// met is what came to be in a crowd, and how often.
type met map[string]int

// ready: can a task make a step?
func (c *crowd) ready(i int) bool {
	return !c.tasks[i].parked && c.tasks[i].rounds > 0
}

// anyReady: can one of them?
func (c *crowd) anyReady() bool {
	for i := range c.n {
		if c.ready(i) {
			return true
		}
	}
	return false
}

// over: is all done?
func (c *crowd) over() bool {
	for i := range c.n {
		if c.tasks[i].rounds > 0 {
			return false
		}
	}
	return true
}

// step is a step of a task that is ready.
func (c *crowd) step(t *testing.T, i int, m met) {
	w := &c.tasks[i]
	switch {
	case w.frame.Need != 0:
		c.acquire(i, m)
	case c.holder == i || w.frame.Op == api.OpUnlock:
		c.unlock(t, i, m)
	default:
		c.lock(t, i, m)
	}
	if mutex.Locked(api.Obj{W: c.w}) != (c.holder >= 0) {
		t.Fatalf("the state is %d, and task %d has it", c.w[0], c.holder)
	}
}

// acquire: the task gets the semaphore, or is parked.
func (c *crowd) acquire(i int, m met) {
	w := &c.tasks[i]
	place := w.frame.Need - 1
	if c.w[place] > 0 {
		c.w[place]--
		w.frame.Need = 0
		m["got"]++
		return
	}
	w.parked = true
	at := c.waits
	if w.frame.Front {
		at = 0
		m["front"]++
	}
	copy(c.row[at+1:], c.row[at:c.waits])
	c.row[at] = i
	c.waits++
	m["parked"]++
}

func (c *crowd) lock(t *testing.T, i int, m met) {
	w := &c.tasks[i]
	if w.frame.Op == 0 {
		w.frame = mutex.Begin(api.OpLock)
	}
	phase := w.frame.Phase
	// Who was handed a mutex finds it as it was left: not locked, and itself among those who wait.
	if phase == 4 && (c.holder >= 0 || bit(c.w[0], 1) || !bit(c.w[0], 2) || down(c.w[0]) < 1) {
		t.Fatalf("task %d was handed %d", i, c.w[0])
	}
	o, f, a := mutex.Lock(api.Obj{W: c.w}, w.frame, c.now, c.patience)
	c.w, w.frame = o.W, f
	m["lock "+string(rune('0'+phase))]++
	if phase == 2 && f.Phase == 1 {
		m["come too late"]++
	}
	if !a.Done {
		return
	}
	if c.holder >= 0 || c.next >= 0 && c.next != i || f != (api.Frame{}) {
		t.Fatalf("task %d has it, it was task %d's; next is %d", i, c.holder, c.next)
	}
	c.holder, c.next = i, -1
}

func (c *crowd) unlock(t *testing.T, i int, m met) {
	w := &c.tasks[i]
	if w.frame.Op == 0 {
		w.frame = mutex.Begin(api.OpUnlock)
	}
	phase := w.frame.Phase
	o, f, a := mutex.Unlock(api.Obj{W: c.w}, w.frame)
	c.w, w.frame = o.W, f
	m["unlock "+string(rune('0'+phase))]++
	if phase == 0 {
		c.holder = -1
	}
	if phase == 1 && f.Phase == 1 {
		m["wake too late"]++
	}
	if a.Fault != api.NoFault || a.Park || a.Give != 0 && a.Give != 2 || a.Hand && a.Give != 2 {
		t.Fatalf("task %d: %+v", i, a)
	}
	if a.Give != 0 {
		c.give(a.Give-1, a.Hand, m)
	}
	if a.Done {
		w.rounds--
	}
}

// give: the semaphore has one more, and the first one that waits is woken; hand to hand, it has got that already.
func (c *crowd) give(place int, hand bool, m met) {
	c.w[place]++
	if c.waits == 0 {
		m["given to nobody"]++
		return
	}
	first := c.row[0]
	copy(c.row[:], c.row[1:c.waits])
	c.waits--
	c.row[c.waits] = 0
	c.tasks[first].parked = false
	m["woken"]++
	if hand {
		c.tasks[first].frame.Need = 0
		c.w[place]--
		c.next = first
		m["handed"]++
	}
}

// atEnd looks whether, when all is done, the mutex is as it was at first.
func (c *crowd) atEnd(t *testing.T) {
	if c.w != [6]int64{} || c.waits != 0 || c.holder >= 0 {
		t.Fatalf("all is done, and it is %+v", *c)
	}
}

// wrong looks whether an unlocking that begins now is a fault just where nobody has locked it.
func (c *crowd) wrong(t *testing.T) {
	o, f, a := mutex.Unlock(api.Obj{W: c.w}, mutex.Begin(api.OpUnlock))
	if fault := a.Fault == api.FaultUnlock; fault != (c.holder < 0) || fault && (o.W != c.w || f != (api.Frame{})) {
		t.Fatalf("unlocking of %d, which task %d has: %d %+v", c.w[0], c.holder, o.W[0], a)
	}
}

// allMet looks whether each thing came to be that can.
func (m met) allMet(t *testing.T, what ...string) {
	t.Helper()
	for _, k := range append(what, "lock 0", "lock 1", "lock 2", "lock 3", "unlock 0", "unlock 1", "unlock 3", "come too late", "parked", "got", "woken") {
		if m[k] == 0 {
			t.Error("never met:", k)
		}
	}
}

// next is one of numbers without much order, below n, the same ones each time.
func next(x *uint64, n int) int {
	*x = *x*6364136223846793005 + 1442695040888963407
	return int(*x >> 33 % uint64(n))
}

// P15.2: tasks that lock and unlock in any order: one has it at a time, each comes to its end, and what is given hand to hand is locked next by whom it was given to.
func TestInAnyOrder(t *testing.T) {
	m := met{}
	for seed := range 400 {
		x := uint64(seed)
		c := crowdOf(1+seed%crowdMost, 20, int64(seed/7%5)*10-1)
		for steps := 0; !c.over(); steps++ {
			if !c.anyReady() || steps > 100000 {
				t.Fatalf("behind %d steps it doesn't go on: %+v", steps, c)
			}
			c.now += int64(next(&x, 2))
			i := next(&x, c.n)
			// One goes on for a while, so that others come behind it.
			for range 1 + next(&x, 12) {
				if !c.ready(i) {
					break
				}
				c.step(t, i, m)
				c.wrong(t)
			}
		}
		c.atEnd(t)
	}
	m.allMet(t, "lock 4", "unlock 2", "wake too late", "front", "handed", "given to nobody")
}

// allOrders goes through whatever can come of a crowd, and tells of how many crowds it did.
func allOrders(t *testing.T, first crowd, latest int64, m met) int {
	seen := map[crowd]struct{}{first: {}}
	left := []crowd{first}
	for len(left) > 0 {
		c := left[len(left)-1]
		left = left[:len(left)-1]
		c.wrong(t)
		if !c.anyReady() {
			if !c.over() {
				t.Fatalf("nobody goes on: %+v", c)
			}
			c.atEnd(t)
			continue
		}
		var behind []crowd
		for i := range c.n {
			if c.ready(i) {
				d := c
				d.step(t, i, m)
				behind = append(behind, d)
			}
		}
		if c.now < latest {
			d := c
			d.now++
			behind = append(behind, d)
		}
		for _, d := range behind {
			if _, ok := seen[d]; !ok {
				seen[d] = struct{}{}
				left = append(left, d)
			}
		}
	}
	return len(seen)
}

// P15.2: a few tasks, in all orders that there are: while nobody starves, while all do, and where the clock goes on between.
func TestInAllOrders(t *testing.T) {
	m := met{}
	for _, k := range []struct {
		n, rounds        int
		patience, latest int64
	}{
		{1, 3, 0, 1}, {2, 3, 0, 0}, {2, 3, -1, 0}, {2, 3, 0, 1}, {3, 1, 0, 1}, {3, 2, 0, 0}, {3, 2, -1, 0}, {4, 1, 0, 0}, {4, 1, -1, 0},
	} {
		n := allOrders(t, crowdOf(k.n, k.rounds, k.patience), k.latest, m)
		t.Logf("%+v: %d", k, n)
	}
	m.allMet(t, "lock 4", "unlock 2", "wake too late", "front", "handed", "given to nobody")
}

package cond_test

import (
	"slices"
	"strconv"
	"testing"

	"torpor/api"
	"torpor/cond"
	"torpor/mutex"
	"torpor/trial"
)

// What a task does next.
const (
	comes = iota
	waits
	tells
	leaves
	leavesToTell
	tellsLate
)

// first is the ticket that is given first: behind the second one tickets go round.
const first = greatest - 1

// none is no ticket, and nobody.
const none = -1

// crowd is tasks that wait at one condition, with one mutex, and tell each other.
type crowd struct {
	trial.Crowd
	patience int64
	// bringers is how many tasks, the first ones, bring things, which the others wait for, and take. Of none each waits till all have come, and the last one tells all.
	bringers int
	// late: one tells behind its unlocking; else ahead of it.
	late bool
	// one: who brings something tells one; else all.
	one bool
	// holder is who has locked the mutex.
	holder int
	next   [trial.Most]int8
	// count is how many have come since all met, or how many things there are.
	count int64
	// meetings is how often all have met, and of at which of these times each one came.
	meetings int64
	of       [trial.Most]int64
	// given and told are how many tickets were; ticket is which of them each one has.
	given, told int64
	ticket      [trial.Most]int64
	// row is who waits to be told, as they came.
	row [trial.Most]int8
	n   int8
}

// crowdOf is so many tasks with so many rounds each.
func crowdOf(n, rounds int, patience int64) crowd {
	c := crowd{Crowd: trial.NewCrowd(n, rounds), patience: patience, holder: none}
	for i := range c.ticket {
		c.ticket[i] = none
	}
	return c
}

// meeting is tasks that wait till all have come.
func meeting(n, rounds int, patience int64, late bool) crowd {
	c := crowdOf(n, rounds, patience)
	c.late = late
	return c
}

// bringing is tasks of which some bring, in each round, something for each of the others.
func bringing(bringers, takers, rounds int, patience int64, late, one bool) crowd {
	c := crowdOf(bringers+takers, rounds*bringers, patience)
	c.bringers, c.late, c.one = bringers, late, one
	for i := range bringers {
		c.Tasks[i].Rounds = rounds * takers
	}
	return c
}

// rules are what holds of crowds.
func rules() trial.Rules[crowd] {
	return trial.Rules[crowd]{Base: (*crowd).Base, Step: (*crowd).step, Look: (*crowd).look, AtEnd: (*crowd).atEnd}
}

// list is the list of tickets as it must be.
func (c *crowd) list() api.Notify {
	n := listOf(first+uint32(c.told), uint32(c.given-c.told))
	for _, i := range c.row[:c.n] {
		n.Waiters = append(n.Waiters, waiter(first+uint32(c.ticket[i]), int(i)))
	}
	return n
}

// op is what a task does next, as an instruction.
func (c *crowd) op(i int) int {
	switch c.next[i] {
	case comes:
		return api.OpLock
	case waits:
		return api.OpAwait
	case leaves, leavesToTell:
		return api.OpUnlock
	}
	if c.one {
		return api.OpSignal
	}
	return api.OpAll
}

// step is a step of a task that is ready.
func (c *crowd) step(t trial.T, i int, m trial.Met) {
	f, ok := c.Going(i, mutex.Begin(c.op(i)), m)
	if !ok {
		return
	}
	x := answer{c: condition(c.list()), m: api.Obj{W: c.W}}
	switch f.Op {
	case api.OpLock:
		x.m, x.f, x.a = mutex.Lock(x.m, f, c.Now, c.patience)
	case api.OpUnlock:
		x.m, x.f, x.a = mutex.Unlock(x.m, f)
	case api.OpAwait:
		x = of(cond.Await(x.c, x.m, f, i, c.Now, c.patience))
		c.await(t, i, f, x, m)
	case api.OpSignal:
		x.c, x.a = cond.Signal(x.c)
		c.wake(t, i, c.tellOne(), x, m)
	case api.OpAll:
		x.c, x.a = cond.All(x.c)
		c.wake(t, i, c.tellAll(), x, m)
	}
	m[strconv.Itoa(f.Op)+" stage "+strconv.Itoa(f.Stage)]++
	if x.a.Fault != api.NoFault || !trial.SameObj(x.c, condition(c.list())) || (x.a.Done || f.Op != api.OpAwait) && x.a.Park {
		t.Fatalf("task %d: %+v, of %+v", i, x, *c)
	}
	c.hold(t, i, f, x)
	c.Made(i, trial.Of(x.m, x.f, x.a), m)
	if x.a.Done {
		c.did(t, i, m)
	}
}

// await is what comes of a step of waiting: who has a ticket that is told doesn't wait, and goes on; nobody else does.
func (c *crowd) await(t trial.T, i int, f api.Frame, x answer, m trial.Met) {
	want := api.Act{}
	switch f.Stage {
	case 0:
		c.ticket[i] = c.given
		c.given++
	case 1:
		want.Give, want.Hand = x.a.Give, x.a.Hand
		if x.a.Hand {
			m["waits, and hands the mutex on"]++
		}
	case 2:
		want.Park = c.ticket[i] >= c.told
		if want.Park {
			c.row[c.n] = int8(i)
			c.n++
			c.Tasks[i].Parked = true
			m["waits to be told"]++
		} else {
			m["told before it waits"]++
		}
	case 3:
		if c.ticket[i] >= c.told {
			t.Fatalf("task %d isn't told, and goes on: %+v", i, *c)
		}
		if want.Done = x.a.Done; want.Done {
			c.ticket[i] = none
		}
	}
	if !trial.SameAct(x.a, want) {
		t.Fatalf("task %d waits: %+v, not %+v, of %+v", i, x.a, want, *c)
	}
}

// tellOne tells the next ticket, and of it who waits.
func (c *crowd) tellOne() []int {
	if c.told == c.given {
		return nil
	}
	c.told++
	for k, i := range c.row[:c.n] {
		if c.ticket[i] < c.told {
			copy(c.row[k:], c.row[k+1:c.n])
			c.n--
			c.row[c.n] = 0
			return []int{int(i)}
		}
	}
	return nil
}

// tellAll tells all tickets, and of them who waits.
func (c *crowd) tellAll() []int {
	var l []int
	for _, i := range c.row[:c.n] {
		l = append(l, int(i))
	}
	c.told, c.n = c.given, 0
	clear(c.row[:])
	return l
}

// wake is what comes of telling: just those who waited, and were told, are woken.
func (c *crowd) wake(t trial.T, i int, tasks []int, x answer, m trial.Met) {
	if !trial.SameAct(x.a, api.Act{Done: true, Wake: tasks}) {
		t.Fatalf("task %d tells: %+v, not %v, of %+v", i, x.a, tasks, *c)
	}
	m["wakes "+strconv.Itoa(len(tasks))]++
	for _, k := range x.a.Wake {
		if !c.Tasks[k].Parked {
			t.Fatalf("task %d is woken, and doesn't wait: %+v", k, *c)
		}
		c.Tasks[k].Parked = false
	}
}

// hold is who has locked the mutex behind a step.
func (c *crowd) hold(t trial.T, i int, f api.Frame, x answer) {
	switch {
	case x.a.Done && (f.Op == api.OpLock || f.Op == api.OpAwait):
		if c.holder != none {
			t.Fatalf("task %d has it, and so has task %d", i, c.holder)
		}
		c.holder = i
	case f.Phase == 0 && (f.Op == api.OpUnlock || f.Op == api.OpAwait && f.Stage == 1):
		c.holder = none
	}
}

// did is what a task makes of what it has done.
func (c *crowd) did(t trial.T, i int, m trial.Met) {
	switch c.next[i] {
	case comes:
		c.come(i)
	case waits:
		c.goOn(t, i, m)
	case tells:
		c.next[i] = leaves
	case leavesToTell:
		c.next[i] = tellsLate
	case leaves, tellsLate:
		c.next[i] = comes
		c.Tasks[i].Rounds--
	}
}

// come is what one makes of it who has come, and locked the mutex.
func (c *crowd) come(i int) {
	telling := int8(tells)
	if c.late {
		telling = leavesToTell
	}
	switch {
	case c.bringers == 0 && int(c.count) == c.N-1:
		c.count = 0
		c.meetings++
		c.next[i] = telling
	case c.bringers == 0:
		c.count++
		c.of[i] = c.meetings
		c.next[i] = waits
	case i < c.bringers:
		c.count++
		c.next[i] = telling
	default:
		c.take(i)
	}
}

// take takes something, if it is there.
func (c *crowd) take(i int) {
	if c.count == 0 {
		c.next[i] = waits
		return
	}
	c.count--
	c.next[i] = leaves
}

// goOn is what one makes of it who was told: where what it waited for is gone already it waits once more.
func (c *crowd) goOn(t trial.T, i int, m trial.Met) {
	switch {
	case c.bringers != 0:
		if c.take(i); c.next[i] == waits {
			m["in vain"]++
		}
	case c.of[i] == c.meetings:
		// Whoever could tell it too early waits for it.
		t.Fatalf("task %d goes on before all have come: %+v", i, *c)
	default:
		c.next[i] = leaves
	}
}

// look looks whether it is locked just where a task has it, and whether just those wait to be told who stand in the row, with a ticket that isn't told.
func (c *crowd) look(t trial.T) {
	if mutex.Locked(api.Obj{W: c.W}) != (c.holder >= 0) {
		t.Fatalf("the state is %d, and task %d has it", c.W[0], c.holder)
	}
	for i := range c.N {
		stands := slices.Contains(c.row[:c.n], int8(i))
		// Who waits for the mutex instead needs its semaphore.
		w := c.Tasks[i]
		if stands != (w.Parked && w.Frame.Need == 0) || stands && c.ticket[i] < c.told {
			t.Fatalf("task %d waits to be told: %v, of %+v", i, stands, *c)
		}
	}
}

// atEnd looks whether, when all is done, the mutex is as it was at first, nobody waits, and each ticket was told.
func (c *crowd) atEnd(t trial.T) {
	if c.W != [6]int64{} || c.Waiting(1) != 0 || c.holder != none || c.n != 0 || c.told != c.given || c.count != 0 {
		t.Fatalf("all is done, and it is %+v", *c)
	}
}

// allMet looks whether each stage was met, and whatever can come of tasks that meet each other.
func allMet(t *testing.T, m trial.Met) {
	t.Helper()
	m.All(t, "36 stage 0", "36 stage 1", "36 stage 2", "36 stage 3", "38 stage 0")
	m.All(t, "waits to be told", "told before it waits", "wakes 0", "wakes 1", "wakes 2")
	m.All(t, "waits, and hands the mutex on", "parked", "front", "got", "woken", "handed", "given to nobody")
}

// P19.2: tasks that wait and tell in any order: whoever has a ticket goes on when all are told, whether it waits already or not, and so does the first one when one is; all come to their end.
func TestInAnyOrder(t *testing.T) {
	m := trial.Met{}
	for seed := range 1500 {
		patience, late := int64(seed/7%5)*10-1, seed%2 == 1
		rules().InAnyOrder(t, meeting(1+seed%trial.Most, 10, patience, late), uint64(seed), m)
		bringers, takers := 1+seed%3, 1+seed/3%3
		rules().InAnyOrder(t, bringing(bringers, takers, 5, patience, late, false), uint64(seed), m)
		rules().InAnyOrder(t, bringing(bringers, takers, 5, patience, late, true), uint64(seed), m)
	}
	allMet(t, m)
	m.All(t, "37 stage 0", "in vain", "wakes 3", "wakes 4", "wakes 5")
}

// P19.2: a few tasks, in all orders that there are, where all are told, ahead of the unlocking, and behind it; while nobody starves, while all do, and where the clock goes on between.
func TestInAllOrders(t *testing.T) {
	m := trial.Met{}
	for _, k := range []struct {
		n, rounds        int
		patience, latest int64
	}{
		{1, 3, 0, 1}, {2, 3, 0, 0}, {2, 3, -1, 0}, {2, 2, 0, 1}, {3, 1, 0, 0}, {3, 1, -1, 0}, {3, 1, 0, 1},
	} {
		for _, late := range []bool{false, true} {
			n := rules().InAllOrders(t, meeting(k.n, k.rounds, k.patience, late), k.latest, m)
			t.Logf("%+v, late: %v: %d", k, late, n)
		}
	}
	allMet(t, m)
}

// P19.2: a few tasks that bring and take, in all orders that there are, where one is told of each thing, or all.
func TestBringInAllOrders(t *testing.T) {
	m := trial.Met{}
	for _, k := range []struct {
		bringers, takers, rounds int
		patience, latest         int64
	}{
		{1, 1, 1, 0, 1}, {1, 1, 3, 0, 0}, {1, 1, 3, -1, 0}, {1, 2, 1, 0, 0}, {1, 2, 1, -1, 0}, {2, 1, 1, 0, 0}, {2, 1, 1, -1, 0},
	} {
		for _, late := range []bool{false, true} {
			for _, one := range []bool{false, true} {
				n := rules().InAllOrders(t, bringing(k.bringers, k.takers, k.rounds, k.patience, late, one), k.latest, m)
				t.Logf("%+v, late: %v, one: %v: %d", k, late, one, n)
			}
		}
	}
	allMet(t, m)
	m.All(t, "37 stage 0", "in vain")
}

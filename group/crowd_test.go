package group_test

import (
	"strconv"
	"testing"

	"torpor/api"
	"torpor/group"
	"torpor/trial"
)

// Where a task is that waits.
const (
	away = iota
	came // the counter hasn't been at 0 since it came
	free
)

// crowd is tasks that count and wait by turns, with one group.
type crowd struct {
	trial.Crowd
	// down tells that all was counted ahead, and each task only counts down, by 1; else each counts up, and then down again.
	down bool
	// plans has a bit for each round that a task has left: does it wait?
	plans [trial.Most]uint32
	up    [trial.Most]bool
	where [trial.Most]int8
	// owed is how many a task has still to let go.
	owed [trial.Most]int64
	// sum is what was counted, and waits how many have come to wait since that was last at 0.
	sum, waits int64
}

func crowdOf(rounds int, plans ...uint32) crowd {
	c := crowd{Crowd: trial.NewCrowd(len(plans), rounds)}
	copy(c.plans[:], plans)
	return c
}

// downOf is a crowd that only counts down, where as much is counted ahead as it will. Who counts behind a waiting of its own would wait for itself.
func downOf(t *testing.T, rounds int, plans ...uint32) crowd {
	t.Helper()
	c := crowdOf(rounds, plans...)
	c.down = true
	for _, p := range plans {
		for k := range rounds {
			c.sum += int64(^p >> k & 1)
		}
	}
	o, a, _, _ := count(t, api.Obj{}, c.sum)
	if !a.Done {
		t.Fatal("ahead:", o, a)
	}
	c.W = o.W
	return c
}

// rules are what holds of crowds.
func rules() trial.Rules[crowd] {
	return trial.Rules[crowd]{Base: (*crowd).Base, Step: (*crowd).step, Look: (*crowd).look, AtEnd: (*crowd).atEnd}
}

// by is how much a task counts next.
func (c *crowd) by(i int) int64 {
	switch {
	case c.down:
		return -1
	case c.up[i]:
		return int64(-1 - i)
	}
	return int64(1 + i)
}

// next is the frame of what a task does next.
func (c *crowd) next(i int) api.Frame {
	if c.plans[i]&1 == 1 && !c.up[i] {
		return begin(api.OpWait)
	}
	return begin(api.OpCount)
}

// step is a step of a task that is ready.
func (c *crowd) step(t trial.T, i int, m trial.Met) {
	f, ok := c.Going(i, c.next(i), m)
	if !ok {
		return
	}
	o, x := api.Obj{W: c.W}, trial.Answer{}
	if f.Op == api.OpCount {
		x = trial.Of(group.Count(o, f, c.by(i)))
		c.count(t, i, f, x, m)
	} else {
		x = trial.Of(group.Wait(o, f))
		c.wait(t, i, f, x, m)
	}
	m[strconv.Itoa(f.Op)+" stage "+strconv.Itoa(f.Stage)]++
	c.Made(i, x, m)
	if x.A.Done && !c.up[i] {
		c.Tasks[i].Rounds--
		c.plans[i] >>= 1
	}
}

// count is what comes of a step of counting: at 0, and only there, all who wait are let go, each by a step.
func (c *crowd) count(t trial.T, i int, f api.Frame, x trial.Answer, m trial.Met) {
	want := api.Act{}
	if f.Stage == 0 {
		by := c.by(i)
		c.sum += by
		c.up[i] = by > 0
		want.Done = c.sum > 0 || c.waits == 0
		if c.sum == 0 {
			c.atZero(i, m)
		}
	} else {
		c.owed[i]--
		want.Give, want.Done = 3, c.owed[i] == 0
	}
	if !trial.SameAct(x.A, want) || !want.Done && x.F.Left != c.owed[i] {
		t.Fatalf("task %d counts: %+v, not %+v, of %+v", i, x, want, *c)
	}
}

// atZero: whoever waits may go on, and a task has to let so many go.
func (c *crowd) atZero(i int, m trial.Met) {
	for k := range c.N {
		if c.where[k] == came {
			c.where[k] = free
		}
	}
	if c.waits > 1 {
		m["many wait"]++
	}
	c.owed[i], c.waits = c.waits, 0
}

// wait is what comes of a step of waiting: at 0 one is enough; else one goes on when the counter was at 0.
func (c *crowd) wait(t trial.T, i int, f api.Frame, x trial.Answer, m trial.Met) {
	want := api.Act{Done: f.Stage == 1 || c.sum == 0}
	if !trial.SameAct(x.A, want) {
		t.Fatalf("task %d waits: %+v, of %+v", i, x, *c)
	}
	switch {
	case !want.Done:
		c.where[i] = came
		c.waits++
		if c.allOwed() > 0 {
			m["comes meanwhile"]++
		}
		return
	case f.Stage == 0:
		m["needn't wait"]++
	case c.where[i] == came:
		// It got what was given for another one, who waits still: it comes ahead of that one, where counting goes on.
		if c.down {
			t.Fatalf("task %d goes on at %d", i, c.sum)
		}
		m["ahead"]++
	}
	c.where[i] = away
}

// allOwed is how many are still to be let go, by whomever.
func (c *crowd) allOwed() int64 {
	n := int64(0)
	for _, k := range c.owed {
		n += k
	}
	return n
}

// look looks whether the counter is the sum, whether there is just one semaphore for each one that needs it, given, owed, or to be given at 0, and whether what is too much is a fault.
func (c *crowd) look(t trial.T) {
	needs := int64(0)
	for i := range c.N {
		if c.Tasks[i].Frame.Need != 0 {
			needs++
		}
	}
	if c.W[0] != c.sum || c.W[1] != c.waits || c.W[2]+c.W[1]+c.allOwed() != needs {
		t.Fatalf("%d need it: %+v", needs, *c)
	}
	for _, by := range []int64{-c.sum - 1, Max - c.sum + 1, Max + 1} {
		o, f, a := group.Count(api.Obj{W: c.W}, begin(api.OpCount), by)
		if !trial.SameAct(a, isFault) || o.W != c.W || f != (api.Frame{}) {
			t.Fatalf("counting by %d: %v %+v %+v", by, o, f, a)
		}
	}
}

// atEnd looks whether, when all is done, the group is as it was at first.
func (c *crowd) atEnd(t trial.T) {
	if c.W != [6]int64{} || c.Waiting(2) != 0 || c.allOwed() != 0 {
		t.Fatalf("all is done, and it is %+v", *c)
	}
}

// allMet looks whether each stage was met, and whatever can come of tasks that meet each other.
func allMet(t *testing.T, m trial.Met) {
	t.Helper()
	m.All(t, "32 stage 0", "32 stage 1", "33 stage 0", "33 stage 1", "many wait", "comes meanwhile", "needn't wait", "ahead")
	m.All(t, "parked", "got", "woken", "given to nobody")
}

// P17.2: tasks that count and wait in any order: each that waits is let go once, and comes to its end; where all was counted ahead, only at 0.
func TestInAnyOrder(t *testing.T) {
	m := trial.Met{}
	for seed := range 600 {
		plans := make([]uint32, 1+seed%trial.Most)
		ahead := make([]uint32, len(plans))
		for i := range plans {
			plans[i] = uint32(seed*7919+i*104729) * 2654435761
			ahead[i] = ^uint32(0) << (plans[i] % 21)
		}
		rules().InAnyOrder(t, crowdOf(20, plans...), uint64(seed), m)
		rules().InAnyOrder(t, downOf(t, 20, ahead...), uint64(seed), m)
	}
	allMet(t, m)
}

// P17.2: a few tasks, in all orders that there are: some count, and some wait, or each does by turns.
func TestInAllOrders(t *testing.T) {
	m := trial.Met{}
	for _, k := range []struct {
		rounds int
		plans  []uint32
	}{
		{3, []uint32{0}}, {3, []uint32{7}}, {3, []uint32{2}}, {3, []uint32{0, 7}}, {4, []uint32{5, 10}}, {3, []uint32{0, 0}},
		{2, []uint32{0, 3, 3}}, {2, []uint32{0, 0, 3}}, {2, []uint32{1, 2, 0}}, {3, []uint32{2, 5, 0}}, {1, []uint32{0, 0, 1, 1}}, {2, []uint32{0, 3, 3, 3}}, {1, []uint32{0, 0, 1, 1, 1}},
	} {
		n := rules().InAllOrders(t, crowdOf(k.rounds, k.plans...), 0, m)
		t.Logf("%+v: %d", k, n)
	}
	allMet(t, m)
}

// P17.2: where all was counted ahead nobody who waits goes on till the counter is at 0, in all orders that there are.
func TestOnlyAtZero(t *testing.T) {
	m := trial.Met{}
	for _, k := range []struct {
		rounds int
		plans  []uint32
	}{
		{3, []uint32{0}}, {3, []uint32{7}}, {3, []uint32{4}}, {3, []uint32{0, 7}}, {3, []uint32{4, 6}}, {2, []uint32{0, 3, 3}}, {2, []uint32{2, 2, 2}},
		{1, []uint32{0, 1, 1, 1}}, {2, []uint32{0, 2, 3, 3}}, {1, []uint32{0, 0, 1, 1, 1}}, {1, []uint32{0, 1, 1, 1, 1, 1}}, {2, []uint32{0, 0, 3, 3}},
	} {
		n := rules().InAllOrders(t, downOf(t, k.rounds, k.plans...), 0, m)
		t.Logf("%+v: %d", k, n)
	}
	m.All(t, "32 stage 0", "32 stage 1", "33 stage 0", "33 stage 1", "many wait", "needn't wait", "parked", "got", "woken", "given to nobody")
	if m["ahead"] != 0 || m["comes meanwhile"] != 0 {
		t.Error("who waits goes on before the counter is at 0:", m)
	}
}

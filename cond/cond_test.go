package cond_test

import (
	"math"
	"testing"

	"torpor/api"
	"torpor/mutex"
	"torpor/trial"
)

// P19.1: each step of waiting, of lists that may be and such as may not, with tickets round those that are out, of all stages and of others, of tasks that wait already and such as don't.
func TestEachStep(t *testing.T) {
	for _, from := range froms() {
		for k, n := range lists(from) {
			for _, near := range []uint32{n.Told, n.Wait} {
				for i := range uint32(4) {
					for stage := -1; stage <= 4; stage++ {
						for j, f := range frames(stage, lefts(near - 2 + i)[k%7]) {
							s := sceneOf(n, trial.States()[(7*k+j)%len(trial.States())])
							s.task = []int{0, 3, 100, -1, 1}[(k+j)%5]
							s.check(t, f)
						}
					}
				}
			}
		}
	}
}

// P19.1: each step, of objects of any kind, also such as may not be, and of which nothing is told; and where the condition and the mutex are one object.
func TestAnyObject(t *testing.T) {
	for kind := -1; kind <= 7; kind++ {
		for _, state := range []int64{0, 1, 8, 9, 12, -1, least} {
			for _, c := range trial.Objects(kind, words(state)) {
				for _, m := range append(trial.Objects(kind, words(state)), c) {
					for stage := -1; stage <= 4; stage++ {
						for _, f := range frames(stage, 8) {
							scene{c: c, m: m, task: kind, now: 7, patience: 20}.check(t, f)
						}
					}
				}
			}
		}
	}
	for stage := -1; stage <= 4; stage++ {
		scene{}.check(t, api.Frame{Stage: stage})
	}
}

// P19.1: of any other Stage nothing is done, and the act is empty.
func TestOtherStages(t *testing.T) {
	for _, stage := range trial.Others(4) {
		for _, n := range lists(greatest) {
			for _, state := range []int64{0, 1, 9, 12, -1} {
				for _, f := range frames(stage, greatest) {
					sceneOf(n, state).checkNothing(t, f)
				}
			}
		}
	}
}

// P19.1: stage 0, by answers written out: the next ticket is Left, also where it is at the end of 32 bits, or would be below 0 with a sign; whatever the mutex is.
func TestTicket(t *testing.T) {
	for _, told := range append(froms(), 1<<31-1000, 1<<31-500, 1<<31+1, greatest-500) {
		for _, out := range []uint32{0, 1, 2, 12, 500, 998, 999} {
			for _, n := range []api.Notify{listOf(told, out), listOf(told, out, waiting(told, min(12, int(out)))...)} {
				ticket := told + out
				behind := api.Notify{Wait: ticket + 1, Told: told, Waiters: n.Waiters}
				for _, f := range frames(0, -5) {
					g := f
					g.Stage, g.Phase, g.Left = 1, 0, int64(ticket)
					for _, state := range []int64{0, 1, 8, 12, least} {
						s := sceneOf(n, state)
						s.checkTold(t, f, of(with(s.c, behind), s.m, g, api.Act{}))
					}
				}
			}
		}
	}
	for _, k := range []struct {
		next uint32
		left int64
	}{{0, 0}, {1, 1}, {2147483647, 2147483647}, {2147483648, 2147483648}, {4294967294, 4294967294}, {4294967295, 4294967295}} {
		x := sceneOf(listOf(k.next, 0), 1).await(begin())
		if x.f != (api.Frame{Op: 36, Stage: 1, Since: -1, Left: k.left}) || x.c.Notify.Wait != k.next+1 || x.c.Notify.Told != k.next {
			t.Errorf("the ticket %d: %+v", k.next, x)
		}
	}
}

// P19.1: stage 0, by answers written out: no room for a ticket more, and a list that may not be, are FaultRoom, and nothing is changed; the mutex stays locked.
func TestNoTicket(t *testing.T) {
	for _, from := range froms() {
		full := []api.Notify{listOf(from, 1000), listOf(from, 1000, waiter(from+999, 1)), listOf(from, 1000, waiting(from, 12)...)}
		for _, n := range append(full, wrongLists(from)...) {
			for _, f := range frames(0, -5) {
				for _, state := range []int64{0, 1, 9, 12, least} {
					sceneOf(n, state).checkRoom(t, f)
				}
			}
		}
	}
}

// turn is the frame with which stage 2 begins behind another one.
func turn(f api.Frame) api.Frame {
	return api.Frame{Op: f.Op, Stage: 2, Since: -1, Left: f.Left}
}

// left are steps of a mutex whose frames have that Left, but those that are empty.
func left(left int64, steps []trial.MutexStep) []trial.MutexStep {
	var l []trial.MutexStep
	for _, s := range steps {
		s.F.Left = left
		if s.G != (api.Frame{}) {
			s.G.Left = left
		}
		l = append(l, s)
	}
	return l
}

// P19.1: stages 1 and 3, by answers written out: each Phase of unlocking, and of locking, its fault, and what it gives, also hand to hand; behind unlocking stage 2 begins, with Left. Whatever the list is, it stays, and a ticket is out still.
func TestMutexSteps(t *testing.T) {
	for _, n := range append(lists(greatest), lists(7)...) {
		for _, k := range []int64{0, 7, -1, greatest, greatest + 1, least, most} {
			s := sceneOf(n, 0)
			unlock := trial.Then(turn, left(k, trial.UnlockSteps(api.OpAwait, 1)))
			lock := left(k, trial.LockSteps(api.OpAwait, 3))
			s.ofMutex().CheckMutex(t, api.KindMutex, words, unlock)
			s.ofMutex().CheckMutex(t, api.KindMutex, words, lock)
			for _, x := range append(unlock, lock...) {
				s := sceneOf(n, x.State)
				m := s.m
				m.W = words(x.Behind)
				s.checkTold(t, x.F, of(s.c, m, x.G, x.A))
			}
		}
	}
}

// P19.1: these stages, of each Phase, all states and an Old that is the state or isn't, with the clock and the patience at their edges.
func TestMutexEdges(t *testing.T) {
	for _, state := range trial.States() {
		for _, f := range trial.MutexFrames(api.OpAwait, 3, state) {
			s := sceneOf(listOf(greatest, 3, waiter(0, 4)), state)
			for _, x := range trial.Moments() {
				s.now, s.patience = x, 20
				s.check(t, f)
				s.now, s.patience = 7, x
				s.check(t, f)
			}
			f.Stage = 1
			s.check(t, f)
		}
	}
}

// P19.1: stage 3, at any time, and with any patience: who comes waits since now, unless he waits already, and who is woken starves if he waited for longer than the patience.
func TestClock(t *testing.T) {
	for _, n := range []api.Notify{{}, listOf(greatest, 3, waiter(0, 4)), listOf(5, 1001)} {
		at := func(now, patience int64) trial.Call {
			s := sceneOf(n, 0)
			s.now, s.patience = now, patience
			return s.ofMutex()
		}
		trial.CheckClock(t, at, api.KindMutex, words, trial.ClockSteps(api.OpAwait, 3))
	}
}

// P19.1: no other stage hangs on the clock, or on the patience.
func TestNoClock(t *testing.T) {
	for _, n := range lists(greatest) {
		for stage := range 3 {
			for _, f := range frames(stage, greatest) {
				s := sceneOf(n, 9)
				want := s.await(f)
				for _, x := range trial.Moments() {
					s.now, s.patience = x, -x
					s.checkTold(t, f, want)
				}
			}
		}
	}
}

// next is the frame with which stage 3 begins behind another one.
func next(f api.Frame) api.Frame {
	return api.Frame{Op: f.Op, Stage: 3, Since: -1}
}

// P19.1: stage 2, by answers written out: who has a ticket that is told doesn't wait, whoever he is, also at a list that may not be, or where there is no room; nothing else is changed.
func TestIsTold(t *testing.T) {
	for _, from := range froms() {
		for _, n := range lists(from) {
			for _, back := range []uint32{1, 2, 1000, 1<<31 - 1, 1 << 31} {
				for _, k := range lefts(from - back) {
					for i, f := range frames(2, k) {
						s := sceneOf(n, []int64{0, 1, 9, 12}[i%4])
						s.task = []int{3, -1, 100, 0}[i%4]
						s.checkTold(t, f, of(s.c, s.m, next(f), api.Act{}))
					}
				}
			}
		}
	}
}

// P19.1: stage 2, by answers written out: who has a ticket that is out waits with it, as the last one; the mutex isn't asked.
func TestPark(t *testing.T) {
	for _, from := range froms() {
		for _, k := range []struct {
			n      api.Notify
			ticket uint32
			task   int
		}{
			{listOf(from, 1), 0, 0}, {listOf(from, 1), 0, 3}, {listOf(from, 3), 2, 9}, {listOf(from, 1000), 999, 1},
			{listOf(from, 3, waiter(from+2, 1)), 0, 2}, {listOf(from, 3, waiter(from, 1)), 2, 0}, {listOf(from, 1), 0, 1 << 40},
			{listOf(from, 12, waiting(from, 11)...), 11, 5}, {listOf(from, 1000, waiting(from+3, 11)...), 2, 99},
		} {
			ticket := from + k.ticket
			behind := k.n
			behind.Waiters = append(append([]api.Waiter{}, k.n.Waiters...), waiter(ticket, k.task))
			for _, x := range lefts(ticket) {
				for i, f := range frames(2, x) {
					s := sceneOf(k.n, []int64{0, 1, 9, 12}[i%4])
					s.task = k.task
					s.checkTold(t, f, of(with(s.c, behind), s.m, next(f), api.Act{Park: true}))
				}
			}
		}
	}
}

// P19.1: stage 2, by answers written out: each error of who would wait is FaultRoom, and nothing is changed.
func TestNoRoom(t *testing.T) {
	for _, from := range froms() {
		three := listOf(from, 20, waiter(from+4, 7), waiter(from, 3), waiter(from+19, 5))
		twelve := listOf(from, 20, waiting(from, 12)...)
		type row struct {
			n      api.Notify
			ticket uint32
			task   int
		}
		rows := []row{
			// A task below 0; a ticket that isn't out, though it isn't told.
			{three, 1, -1}, {three, 4, -3}, {listOf(from, 1), 0, math.MinInt}, {three, 20, 0}, {three, 21, 7}, {listOf(from, 0), 0, 0}, {three, 1<<31 - 1, 0},
			// Who waits already, also with that ticket; somebody who has that ticket.
			{three, 1, 7}, {three, 1, 3}, {three, 0, 3}, {three, 0, 5}, {three, 4, 0}, {three, 19, 1},
			// No room.
			{twelve, 12, 0}, {twelve, 19, 112}, {twelve, 12, 100}, {twelve, 3, 0},
		}
		for _, n := range wrongLists(from) {
			rows = append(rows, row{n, 0, 3}, row{n, 1, 0}, row{n, 2, -1})
		}
		for _, k := range rows {
			for _, x := range lefts(from + k.ticket) {
				for i, f := range frames(2, x) {
					s := sceneOf(k.n, []int64{0, 1, 9, 12}[i%4])
					s.task = k.task
					s.checkRoom(t, f)
				}
			}
		}
	}
}

// P19.1: no more is changed than what a stage names: the list's next ticket, the mutex's state, who waits, the mutex's state; what is done, and a fault, leave an empty frame, and a fault asks for nothing, and changes nothing.
func TestLittleIsChanged(t *testing.T) {
	for _, from := range []uint32{0, 1<<31 - 1, greatest} {
		for _, n := range lists(from) {
			for stage := -1; stage <= 4; stage++ {
				for i, state := range trial.States() {
					for _, f := range frames(stage, int64(from)+int64(i%4)-1) {
						s := sceneOf(n, state)
						checkLittle(t, s, f, s.await(f))
					}
				}
			}
		}
	}
}

// checkLittle looks whether an answer changes no more than its stage names.
func checkLittle(t *testing.T, s scene, f api.Frame, x answer) {
	t.Helper()
	was := s
	fault := x.a.Fault != api.NoFault
	switch {
	case fault:
	case f.Stage == 0:
		was.c.Notify.Wait++
	case f.Stage == 2 && x.a.Park:
		l := append([]api.Waiter{}, was.c.Notify.Waiters...)
		was.c.Notify.Waiters = append(l, waiter(cut(f.Left), s.task))
	case f.Stage == 1, f.Stage == 3:
		was.m.W[0] = x.m.W[0]
	}
	if !trial.SameObj(x.c, was.c) || !trial.SameObj(x.m, was.m) {
		t.Errorf("Await of %+v with %+v changes too much: %+v", s, f, x)
	}
	if (x.a.Done || fault) && x.f != (api.Frame{}) || x.a.Done && f.Stage != 3 {
		t.Errorf("Await of %+v with %+v is done, or a fault: %+v", s, f, x)
	}
	a := x.a
	if f.Stage == 1 {
		a.Give, a.Hand = 0, false
	}
	if f.Stage == 2 {
		a.Park = false
	}
	if !trial.SameAct(a, api.Act{Done: a.Done, Fault: a.Fault}) || fault && !trial.SameAct(x.a, api.Act{Fault: x.a.Fault}) {
		t.Errorf("Await of %+v with %+v asks for too much: %+v", s, f, x.a)
	}
}

// P19.1: what is answered is the caller's own: none of it is changed by what is done to another answer, to what was handed in, or by a later call.
func TestAnswersStay(t *testing.T) {
	for _, n := range rightLists(greatest) {
		for _, state := range []int64{0, 1, 9, 12} {
			s := sceneOf(n, state)
			var got []api.Obj
			for stage := -1; stage <= 4; stage++ {
				for _, f := range frames(stage, greatest+2) {
					x := s.await(f)
					y := scene{x.c, x.m, s.task, s.now, s.patience}.await(x.f)
					// One object that is both is answered as two.
					z := scene{s.c, s.c, s.task, s.now, s.patience}.await(f)
					got = append(got, x.c, x.m, y.c, y.m, z.c, z.m)
				}
			}
			for _, c := range []trial.Call{signal(), all()} {
				x := c.Step(s.c, api.Frame{})
				got = append(got, x.O, c.Step(x.O, api.Frame{}).O)
			}
			trial.Apart(t, "a step", append(got, s.c, s.m))
		}
	}
}

// P19.1: a call hangs on its arguments alone, whatever was called before.
func TestNothingIsKept(t *testing.T) {
	for range 3 {
		for stage := range 4 {
			for _, f := range frames(stage, greatest) {
				for _, n := range lists(greatest) {
					sceneOf(n, 9).check(t, f)
					signal().Check(t, condition(n), api.Frame{})
					sceneOf(n, 0).check(t, f)
					all().Check(t, condition(n), api.Frame{})
				}
			}
		}
	}
}

// P19.1: the chapter's example, step by step: one waits, with ticket 0; a signal: it is woken, and locks the mutex.
func TestExample(t *testing.T) {
	s := scene{c: api.Obj{Kind: api.KindCond}, m: api.Obj{Kind: api.KindMutex, W: [6]int64{1}}, task: 4, now: 7, patience: 20}
	f := begin()
	for k, g := range []api.Frame{{Op: 36, Stage: 1, Since: -1}, {Op: 36, Stage: 2, Since: -1}, {Op: 36, Stage: 3, Since: -1}} {
		x := s.await(f)
		if x.f != g || !trial.SameAct(x.a, api.Act{Park: k == 2}) || x.c.Notify.Wait != 1 || mutex.Locked(x.m) != (k == 0) {
			t.Fatal("one waits, step", k, x)
		}
		s.c, s.m, f = x.c, x.m, x.f
	}
	if !trial.SameObj(s.c, api.Obj{Kind: api.KindCond, Notify: listOf(0, 1, waiter(0, 4))}) {
		t.Fatal("one waits:", s.c)
	}
	x := signal().Step(s.c, api.Frame{})
	if !trial.SameAct(x.A, api.Act{Done: true, Wake: []int{4}}) || !trial.SameObj(x.O, api.Obj{Kind: api.KindCond, Notify: listOf(1, 0)}) {
		t.Fatal("a signal:", x)
	}
	s.c = x.O
	y := s.await(f)
	if !trial.SameAct(y.a, api.Act{Done: true}) || y.f != (api.Frame{}) || y.m.W != [6]int64{1} || !trial.SameObj(y.c, s.c) {
		t.Error("it is woken:", y)
	}
}

package rw_test

import (
	"testing"

	"torpor/api"
	"torpor/mutex"
	"torpor/rw"
	"torpor/trial"
)

// P16.1: WLock's stage 0 and WUnlock's stage 2, by each Phase of layer 15's steps, with the clock and the patience at their edges.
func TestMutexSteps(t *testing.T) {
	for _, state := range trial.States() {
		o := full(1, 1)
		o.W[0] = state
		for _, f := range trial.MutexFrames(api.OpWLock, 0, state) {
			for _, x := range trial.Moments() {
				writing(x, 20).Check(t, o, f)
				writing(7, x).Check(t, o, f)
			}
		}
		for _, f := range trial.MutexFrames(api.OpWUnlock, 2, state) {
			ending().Check(t, o, f)
		}
	}
}

// words are those of a lock whose mutex's state is told; the others are to stay as they are.
func words(state int64) [6]int64 {
	return [6]int64{state, -3, least, most, -5, 12}
}

// P16.1: WLock's stage 0, by answers written out: each Phase; what its being done makes of the frame; the clock is 7, the patience 20.
func TestLockWriters(t *testing.T) {
	writing(7, 20).CheckMutex(t, api.KindRW, words, trial.Then(trial.Next(1), trial.LockSteps(api.OpWLock, 0)))
}

// P16.1: WLock's stage 0 leans on the clock and the patience that it is given.
func TestClock(t *testing.T) {
	trial.CheckClock(t, writing, api.KindRW, words, trial.ClockSteps(api.OpWLock, 0))
}

// P16.1: WLock's stage 1, by answers written out: W[4] that was 0, above, and below.
func TestComeToWrite(t *testing.T) {
	begin := api.Frame{Op: 30, Stage: 1, Since: -1}
	waits := func(f api.Frame, left int64) api.Frame {
		f.Stage, f.Left = 2, left
		return f
	}
	var rows []step
	for _, f := range []api.Frame{begin, trial.Odd(1), {Stage: 1}} {
		rows = append(rows, step{counting(0), f, counting(-Max), api.Frame{}, api.Act{Done: true}})
		for _, n := range []int64{1, 2, 100, Max - 1, Max, Max + 1, 1 << 32, most, -1, -2, 1 - Max, -Max, -Max - 1, -1 << 32, least + Max, least + Max + 1} {
			rows = append(rows, step{counting(n), f, counting(n - Max), waits(f, n), api.Act{}})
		}
		// Less than the least word comes round.
		rows = append(rows,
			step{counting(least), f, counting(most - Max + 1), waits(f, least), api.Act{}},
			step{counting(least + 1), f, counting(most - Max + 2), waits(f, least+1), api.Act{}},
			step{counting(least + Max - 1), f, counting(most), waits(f, least+Max-1), api.Act{}})
	}
	checkRows(t, writing(7, 20), rows)
}

// P16.1: WLock's stages 2 and 3, by answers written out: W[5] and Left that make 0, and that don't.
func TestWaitForReaders(t *testing.T) {
	frame := func(stage int, left int64) api.Frame {
		return api.Frame{Op: 30, Stage: stage, Since: -1, Left: left}
	}
	with := func(waits int64) [6]int64 {
		return [6]int64{9, -3, least, most, -5, waits}
	}
	needs := func(f api.Frame) api.Frame {
		f.Stage, f.Need = 3, 3
		return f
	}
	var rows []step
	for _, k := range []struct{ waits, left int64 }{{0, 0}, {-1, 1}, {1, -1}, {-3, 3}, {-12, 12}, {-Max, Max}, {1 << 32, -1 << 32}, {-most, most}, {least, least}} {
		rows = append(rows, step{with(k.waits), frame(2, k.left), with(0), api.Frame{}, api.Act{Done: true}})
	}
	for _, k := range []struct{ waits, left, sum int64 }{
		{0, 1, 1}, {0, 2, 2}, {0, -1, -1}, {-1, 2, 1}, {-2, 1, -1}, {-1, 3, 2}, {1, 1, 2}, {5, 0, 5}, {-5, 0, -5}, {0, Max, Max}, {1, -2, -1},
		{-1 << 31, 1 << 32, 1 << 31}, {0, 1 << 32, 1 << 32}, {0, most, most}, {0, least, least}, {1, most, least}, {most, most, -2}, {-1, least, most}, {least, 1, least + 1},
	} {
		rest := trial.Odd(2)
		rest.Left = k.left
		for _, f := range []api.Frame{frame(2, k.left), rest} {
			rows = append(rows, step{with(k.waits), f, with(k.sum), needs(f), api.Act{}})
		}
	}
	for _, left := range few() {
		for _, f := range frames(3, left) {
			rows = append(rows, step{with(left), f, with(left), api.Frame{}, api.Act{Done: true}}, step{with(0), f, with(0), api.Frame{}, api.Act{Done: true}})
		}
	}
	checkRows(t, writing(7, 20), rows)
}

// P16.1: WUnlock's stage 0, by answers written out: W[4] that is below 0, and that isn't: the fault, which changes nothing.
func TestEndWriting(t *testing.T) {
	begin := mutex.Begin(api.OpWUnlock)
	next := func(f api.Frame, left int64) api.Frame {
		f.Stage, f.Left = 1, left
		return f
	}
	var rows []step
	for _, f := range []api.Frame{begin, trial.Odd(0), {}} {
		for _, n := range []int64{0, 1, 2, Max - 1, Max, Max + 1, 1 << 32, most - 1, most} {
			rows = append(rows, step{counting(n), f, counting(n), api.Frame{}, api.Act{Fault: api.FaultUnlock}})
		}
		for _, n := range []int64{-Max, 1 - Max, 2 - Max, 12 - Max, -1, -2, -Max - 1, -2 * Max, -1 << 32, least, least + 1} {
			rows = append(rows, step{counting(n), f, counting(n + Max), next(f, n+Max), api.Act{}})
		}
	}
	checkRows(t, ending(), rows)
}

// P16.1: WUnlock's stage 1, by answers written out: Left below 0, 0, 1 and many.
func TestLetReadersIn(t *testing.T) {
	var rows []step
	for _, w := range [][6]int64{{}, {9, -3, least, most, 2, 12}, {4: -Max}} {
		for _, left := range []int64{1, 2, 3, 12, Max, 1 << 32, most} {
			for _, f := range frames(1, left) {
				g := f
				g.Left = left - 1
				rows = append(rows, step{w, f, w, g, api.Act{Give: 4}})
			}
		}
		for _, left := range []int64{0, -1, -2, -Max, -1 << 32, least} {
			for _, f := range frames(1, left) {
				g := f
				g.Stage, g.Phase = 2, 0
				rows = append(rows, step{w, f, w, g, api.Act{}})
			}
		}
	}
	checkRows(t, ending(), rows)
}

// P16.1: WUnlock's stage 2, by answers written out: each Phase, its fault, and what it gives.
func TestUnlockWriters(t *testing.T) {
	ending().CheckMutex(t, api.KindRW, words, trial.UnlockSteps(api.OpWUnlock, 2))
}

// P16.1: who ends writing lets in just as many readers as are there, each by a Give 4, and then unlocks.
func TestGives(t *testing.T) {
	for _, n := range []int64{0, 1, 2, 3, 12, 1000} {
		o, f, a := rw.WUnlock(api.Obj{W: [6]int64{0: 1, 4: n - Max}}, mutex.Begin(api.OpWUnlock))
		gives, steps := int64(0), 1
		for !a.Done && a.Fault == api.NoFault && steps < 2000 {
			if o, f, a = rw.WUnlock(o, f); a.Give == 4 {
				gives++
			}
			steps++
		}
		if gives != n || int64(steps) != n+3 || !a.Done || f != (api.Frame{}) || o.W != [6]int64{4: n} {
			t.Errorf("%d readers wait: %d are let in by %d steps; %v %+v %+v", n, gives, steps, o, f, a)
		}
	}
}

// P16.2: while nobody writes readers come by a step each, and go by one, as many as there are.
func TestReadersAlone(t *testing.T) {
	for _, o := range objects([6]int64{}) {
		first := o
		for _, n := range []int64{1, 2, 3, 1000, 1} {
			for k := range n {
				x, f, a := rw.RLock(o, mutex.Begin(api.OpRLock))
				here, writer := rw.Readers(x)
				if !trial.SameAct(a, api.Act{Done: true}) || f != (api.Frame{}) || here != k+1 || writer {
					t.Fatal("RLock:", x, f, a)
				}
				o = x
			}
			for k := range n {
				x, f, a := rw.RUnlock(o, mutex.Begin(api.OpRUnlock))
				here, writer := rw.Readers(x)
				if !trial.SameAct(a, api.Act{Done: true}) || f != (api.Frame{}) || here != n-1-k || writer {
					t.Fatal("RUnlock:", x, f, a)
				}
				o = x
			}
			if !trial.SameObj(o, first) {
				t.Fatal("all have gone:", o)
			}
		}
	}
}

// P16.2: a writer that finds nobody is in by two steps, and out by three, as often as it likes; meanwhile who would read waits.
func TestWriterAlone(t *testing.T) {
	for _, o := range objects([6]int64{}) {
		first := o
		for k := range int64(20) {
			f, a := mutex.Begin(api.OpWLock), api.Act{}
			for n := range 2 {
				if o, f, a = rw.WLock(o, f, k, 0); a.Done != (n == 1) || !trial.SameAct(a, api.Act{Done: n == 1}) {
					t.Fatal("WLock, step", n, o, f, a)
				}
			}
			if n, writer := rw.Readers(o); n != 0 || !writer || f != (api.Frame{}) {
				t.Fatal("behind WLock:", o, f)
			}
			if _, g, b := rw.RLock(o, mutex.Begin(api.OpRLock)); b.Done || g.Need != 4 {
				t.Fatal("RLock while one writes:", g, b)
			}
			f = mutex.Begin(api.OpWUnlock)
			for n := range 3 {
				if o, f, a = rw.WUnlock(o, f); !trial.SameAct(a, api.Act{Done: n == 2}) {
					t.Fatal("WUnlock, step", n, o, f, a)
				}
			}
			if !trial.SameObj(o, first) || f != (api.Frame{}) {
				t.Fatal("behind WUnlock:", o, f)
			}
			// Once more is a fault, of both.
			for _, c := range []trial.Call{leaving(), ending()} {
				c.CheckRow(t, trial.Row{O: o, F: mutex.Begin(api.OpWUnlock), Want: trial.Answer{O: o, A: api.Act{Fault: api.FaultUnlock}}})
			}
		}
	}
}

package once_test

import (
	"testing"

	"torpor/api"
	"torpor/once"
	"torpor/trial"
)

// P18.1: each step of both calls, of all states of the mutex, and whatever the third word is.
func TestEachStep(t *testing.T) {
	for _, state := range trial.States() {
		for _, third := range thirds() {
			for stage := -1; stage <= 4; stage++ {
				for _, f := range frames(stage) {
					for _, c := range calls() {
						c.Check(t, trial.Full(words(state, third)), f)
					}
				}
			}
		}
	}
}

// P18.1: each step, of objects of any kind, also such as may not be, and of which nothing is told.
func TestAnyObject(t *testing.T) {
	for kind := -1; kind <= 7; kind++ {
		for _, w := range [][6]int64{{}, {1}, {1, 0, 1}, {9, 2}, {8, 1, 1}, words(12, 1), {least, least, least, least, least, least}, {1, 1, 1, 1, 1, 1}} {
			for _, o := range trial.Objects(kind, w) {
				for stage := -1; stage <= 4; stage++ {
					for _, f := range frames(stage) {
						for _, c := range calls() {
							c.Check(t, o, f)
						}
					}
				}
			}
		}
	}
	for _, c := range calls() {
		c.Check(t, api.Obj{}, api.Frame{})
	}
}

// P18.1: of any other Stage nothing is done, and the act is empty.
func TestOtherStages(t *testing.T) {
	for _, w := range [][6]int64{{}, {1}, {1, 0, 1}, {0, 0, 1}, {9, 1, 1}, words(12, 1), words(-1, 0), {least, least, least, least, least, least}, {1, 1, 1, 1, 1, 1}} {
		for _, stage := range trial.Others(4) {
			for _, f := range frames(stage) {
				coming(7, 20).CheckNothing(t, api.KindOnce, w, f)
			}
		}
		// The end has two stages; the next two are the other call's alone.
		for _, stage := range trial.Others(2) {
			for _, f := range frames(stage) {
				ending().CheckNothing(t, api.KindOnce, w, f)
			}
		}
	}
}

// P18.1: Once's stage 0, by answers written out: W[2] of 1, and of any other word, whatever the mutex is.
func TestLook(t *testing.T) {
	for _, state := range trial.States() {
		for _, f := range frames(0) {
			for _, third := range thirds()[1:] {
				w := words(state, third)
				coming(7, 20).CheckWords(t, api.KindOnce, w, f, w, at(f, 1, 0), api.Act{})
			}
			w := words(state, 1)
			coming(7, 20).CheckWords(t, api.KindOnce, w, f, w, api.Frame{}, api.Act{Done: true})
		}
	}
}

// P18.1: Once's stage 2, by answers written out: W[2] of 1, and of any other word: who is told 1 has the mutex still.
func TestLookAgain(t *testing.T) {
	for _, state := range trial.States() {
		for _, f := range frames(2) {
			for _, third := range thirds()[1:] {
				w := words(state, third)
				coming(7, 20).CheckWords(t, api.KindOnce, w, f, w, api.Frame{}, api.Act{Done: true, Value: 1})
			}
			w := words(state, 1)
			coming(7, 20).CheckWords(t, api.KindOnce, w, f, w, at(f, 3, 0), api.Act{})
		}
	}
}

// P18.1: the end's stage 0, by answers written out: a mutex that isn't locked is the fault, which changes nothing; else W[2] is 1, whatever it was.
func TestTell(t *testing.T) {
	for _, third := range thirds() {
		for _, f := range frames(0) {
			for _, state := range []int64{0, 2, 4, 6, 8, 10, 12, 14, 16, 800, 1 << 32, -2, -8, least, least + 4, most - 1} {
				w := words(state, third)
				ending().CheckWords(t, api.KindOnce, w, f, w, api.Frame{}, api.Act{Fault: api.FaultUnlock})
			}
			for _, state := range []int64{1, 3, 5, 7, 9, 11, 13, 15, 17, 801, 1<<32 + 1, -1, -7, least + 1, most} {
				ending().CheckWords(t, api.KindOnce, words(state, third), f, words(state, 1), at(f, 1, 0), api.Act{})
			}
		}
	}
}

// P18.1: Once's stages 1 and 3, and the end's stage 1, by answers written out: each Phase of locking, and of unlocking, its fault, and what it gives, whatever the third word is.
func TestMutexSteps(t *testing.T) {
	for _, third := range thirds() {
		words := func(state int64) [6]int64 { return words(state, third) }
		coming(7, 20).CheckMutex(t, api.KindOnce, words, trial.Then(trial.Next(2), trial.LockSteps(api.OpOnce, 1)))
		coming(7, 20).CheckMutex(t, api.KindOnce, words, trial.UnlockSteps(api.OpOnce, 3))
		ending().CheckMutex(t, api.KindOnce, words, trial.UnlockSteps(api.OpOnceEnd, 1))
	}
}

// P18.1: these stages, of each Phase, all states and an Old that is the state or isn't, with the clock and the patience at their edges.
func TestMutexEdges(t *testing.T) {
	for _, state := range trial.States() {
		for third := range int64(2) {
			o := trial.Full(words(state, third))
			for _, f := range trial.MutexFrames(api.OpOnce, 1, state) {
				for _, x := range trial.Moments() {
					coming(x, 20).Check(t, o, f)
					coming(7, x).Check(t, o, f)
				}
				coming(7, 20).Check(t, o, at(f, 3, f.Phase))
				ending().Check(t, o, f)
			}
		}
	}
}

// P18.1: Once's stage 1, at any time, and with any patience: who comes waits since now, unless he waits already, and who is woken starves if he waited for longer than the patience.
func TestClock(t *testing.T) {
	for _, third := range thirds() {
		words := func(state int64) [6]int64 { return words(state, third) }
		trial.CheckClock(t, coming, api.KindOnce, words, trial.ClockSteps(api.OpOnce, 1))
	}
}

// P18.1: Over, of W[2] of 1, and of any other word; the other words don't count.
func TestOver(t *testing.T) {
	for _, third := range thirds() {
		for _, w := range [][6]int64{words(0, third), words(1, third), {1, 1, third, 1, 1, 1}, {2: third}} {
			for _, o := range trial.Objects(api.KindOnce, w) {
				trial.Asks(t, "Over", o, func(o api.Obj) {
					if once.Over(o) != (third == 1) {
						t.Errorf("Over of %d isn't %v", third, third == 1)
					}
				})
			}
		}
	}
	if once.Over(api.Obj{}) {
		t.Error("Over of an empty object")
	}
}

// P18.1: the chapter's example, step by step: the first one that comes is told 1 by three steps; when it is done, each other one is told 0 by one.
func TestExample(t *testing.T) {
	o, f, a := api.Obj{Kind: api.KindOnce}, begin(api.OpOnce), api.Act{}
	for k, g := range []api.Frame{{Op: 34, Stage: 1, Since: -1}, {Op: 34, Stage: 2, Since: -1}, {}} {
		o, f, a = once.Once(o, f, 7, 20)
		want := api.Act{}
		if k == 2 {
			want = api.Act{Done: true, Value: 1}
		}
		if f != g || !trial.SameAct(a, want) || once.Over(o) || odd(o.W[0]) != (k > 0) {
			t.Fatal("the first one comes, step", k, o, f, a)
		}
	}
	f = begin(api.OpOnceEnd)
	for k, g := range []api.Frame{{Op: 35, Stage: 1, Since: -1}, {}} {
		o, f, a = once.End(o, f)
		if f != g || !trial.SameAct(a, api.Act{Done: k == 1}) || !once.Over(o) {
			t.Fatal("it is done, step", k, o, f, a)
		}
	}
	if o.W != [6]int64{2: 1} {
		t.Error("when it is done:", o)
	}
	for range 3 {
		x, f, a := once.Once(o, begin(api.OpOnce), 9, 20)
		if f != (api.Frame{}) || !trial.SameAct(a, api.Act{Done: true}) || !trial.SameObj(x, o) {
			t.Error("another one comes:", x, f, a)
		}
	}
}

// P18.1: what is answered is the caller's own: none of it is changed by what is done to another answer, or by a later call.
func TestAnswersStay(t *testing.T) {
	for _, w := range [][6]int64{words(0, 0), words(0, 1), words(1, 0), words(9, 1), words(8, 0), words(12, 1)} {
		o := trial.Full(w)
		var got []api.Obj
		for stage := -1; stage <= 4; stage++ {
			for _, f := range frames(stage) {
				for _, c := range calls() {
					x := c.Step(o, f)
					got = append(got, x.O, c.Step(x.O, x.F).O)
				}
			}
		}
		trial.Apart(t, "a step", got)
		if !trial.SameObj(o, trial.Full(w)) {
			t.Error("what was handed in is changed:", o)
		}
	}
}

// P18.1: a call hangs on its arguments alone, whatever was called before.
func TestNothingIsKept(t *testing.T) {
	for range 3 {
		for stage := range 4 {
			for _, f := range frames(stage) {
				for _, c := range calls() {
					for _, third := range []int64{0, 1, 2} {
						c.Check(t, trial.Full(words(0, third)), f)
						c.Check(t, trial.Full(words(9, third)), f)
					}
				}
			}
		}
	}
}

// P18.1: no word but those that a stage names is changed, and nothing else of the object; a step that is done, and a fault, leave an empty frame, a fault changes nothing; and what isn't done asks for nothing.
func TestLittleIsChanged(t *testing.T) {
	named := map[string][][]int{"Once": {{}, {0}, {}, {0}}, "End": {{2}, {0}}}
	for _, state := range trial.States() {
		for _, third := range thirds() {
			for _, c := range calls() {
				for stage, may := range named[c.Name] {
					for _, f := range append(frames(stage), trial.MutexFrames(api.OpOnce, stage, state)...) {
						x := c.Little(t, trial.Full(words(state, third)), f, may...)
						if !x.A.Done && x.A.Fault == api.NoFault && !trial.SameAct(x.A, api.Act{}) {
							t.Errorf("%s of stage %d isn't done: %+v", c.Name, stage, x.A)
						}
						if does := c.Name == "Once" && stage == 2 && x.A.Done; x.A.Value != 0 && !does {
							t.Errorf("%s of stage %d tells %d", c.Name, stage, x.A.Value)
						}
					}
				}
			}
		}
	}
}

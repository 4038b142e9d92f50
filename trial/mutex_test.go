package trial_test

import (
	"math"
	"slices"
	"testing"

	"torpor/api"
	"torpor/mutex"
	"torpor/step"
	"torpor/trial"
)

// P15.1, P16.1, P18.1: states are with each of the bits, and without it, of none who waits, and of more; the least and the greatest word are two of them.
func TestStates(t *testing.T) {
	l := trial.States()
	for _, n := range []int64{0, 1, 12} {
		for bits := range int64(8) {
			if !slices.Contains(l, n*8+bits) {
				t.Errorf("no %d", n*8+bits)
			}
		}
	}
	for _, edges := range [][]int64{l, trial.Moments()} {
		if !slices.Contains(edges, math.MinInt64) || !slices.Contains(edges, math.MaxInt64) || !slices.Contains(edges, -1) {
			t.Errorf("edges: %v", edges)
		}
	}
}

// P16.1, P18.1: frames are of that op and stage, of each Phase and of others, with an Old that is the state and with others, since each moment.
func TestMutexFrames(t *testing.T) {
	for _, state := range trial.States() {
		type key struct {
			phase int
			old   bool
			since int64
		}
		met := map[key]int{}
		for _, f := range trial.MutexFrames(34, 3, state) {
			if f.Op != 34 || f.Stage != 3 {
				t.Errorf("a frame: %+v", f)
			}
			met[key{f.Phase, f.Old == state, f.Since}]++
		}
		for phase := -1; phase <= 5; phase++ {
			for _, since := range trial.Moments() {
				if met[key{phase, true, since}] == 0 || met[key{phase, false, since}] == 0 {
					t.Errorf("of %d no frame of Phase %d since %d", state, phase, since)
				}
			}
		}
	}
}

// state are words of that state alone.
func state(s int64) [6]int64 {
	return [6]int64{s}
}

// stages of each call: what is done of the last one is done, and behind that of another one the next one begins.
type stages struct{ last, other trial.Call }

// calling is both stages of a call of a mutex: the last one, and one behind which a stage begins.
func calling(next int, do func(o api.Obj, f api.Frame) (api.Obj, api.Frame, api.Act)) stages {
	last := func(o api.Obj, f api.Frame) trial.Answer { return trial.Of(do(o, f)) }
	other := func(o api.Obj, f api.Frame) trial.Answer {
		then := api.Frame{Op: f.Op, Stage: next, Since: -1}
		o, f, a := do(o, f)
		return trial.Of(step.Then(then, o, f, a))
	}
	return stages{trial.Call{Name: "the last stage", Step: last, Want: last}, trial.Call{Name: "another stage", Step: other, Want: other}}
}

// lockingAt is locking at a time, with a patience.
func lockingAt(next int, now, patience int64) stages {
	return calling(next, func(o api.Obj, f api.Frame) (api.Obj, api.Frame, api.Act) { return mutex.Lock(o, f, now, patience) })
}

// P16.1, P18.1, P19.1: the steps that are written out are those of a mutex, whatever the op and the stage are, and of each Phase.
func TestMutexSteps(t *testing.T) {
	for stage := range 4 {
		for _, op := range []int{30, 34, 36} {
			lock, unlock := lockingAt(stage+1, 7, 20), calling(stage+1, mutex.Unlock)
			locks, unlocks := trial.LockSteps(op, stage), trial.UnlockSteps(op, stage)
			next := trial.Next(stage + 1)
			holds(t, "locking", "", func(t trial.T) { lock.last.CheckMutex(t, api.KindCond, state, locks) })
			holds(t, "locking, and more", "", func(t trial.T) { lock.other.CheckMutex(t, api.KindRW, state, trial.Then(next, locks)) })
			holds(t, "unlocking", "", func(t trial.T) { unlock.last.CheckMutex(t, api.KindOnce, state, unlocks) })
			holds(t, "unlocking, and more", "", func(t trial.T) { unlock.other.CheckMutex(t, api.KindCond, state, trial.Then(next, unlocks)) })
			for _, s := range slices.Concat(locks, unlocks) {
				if s.F.Stage != stage {
					t.Errorf("of stage %d: %+v", stage, s)
				}
			}
			for phase := -1; phase <= 5; phase++ {
				of := func(s trial.MutexStep) bool { return s.F.Phase == phase }
				if !slices.ContainsFunc(locks, of) || phase < 5 && !slices.ContainsFunc(unlocks, of) {
					t.Errorf("none of Phase %d", phase)
				}
			}
		}
	}
}

// P16.1, P18.1, P19.1: where steps aren't those that are written out that is told of.
func TestWrongMutexSteps(t *testing.T) {
	lock, unlock := lockingAt(2, 7, 20), calling(2, mutex.Unlock)
	locks, unlocks := trial.LockSteps(30, 0), trial.UnlockSteps(30, 0)
	other := func(s int64) [6]int64 { return [6]int64{s, s} }
	for _, k := range []struct {
		name  string
		call  trial.Call
		words func(int64) [6]int64
		steps []trial.MutexStep
	}{
		{"the wrong way", unlock.last, state, locks},
		{"the wrong way round", lock.last, state, unlocks},
		{"another stage", lock.other, state, trial.Then(trial.Next(1), locks)},
		{"not the last stage", unlock.other, state, unlocks},
		{"the last stage", unlock.last, state, trial.Then(trial.Next(2), unlocks)},
		{"other words", lock.last, other, locks},
	} {
		holds(t, k.name, "not {", func(t trial.T) { k.call.CheckMutex(t, api.KindRW, k.words, k.steps) })
	}
}

// P16.1, P18.1, P19.1: behind what is done the next frame begins, and it isn't done, but what it gives is given; all else stays as it is.
func TestThen(t *testing.T) {
	f := api.Frame{Op: 36, Stage: 1, Phase: 3, Old: 8, Left: 5}
	next := func(f api.Frame) api.Frame { return api.Frame{Op: f.Op, Left: f.Left + 1} }
	for _, k := range []struct {
		a, want api.Act
		g       api.Frame
	}{
		{api.Act{Done: true}, api.Act{}, api.Frame{Op: 36, Left: 6}},
		{api.Act{Done: true, Give: 2, Hand: true}, api.Act{Give: 2, Hand: true}, api.Frame{Op: 36, Left: 6}},
		{api.Act{}, api.Act{}, f},
		{api.Act{Fault: api.FaultUnlock}, api.Act{Fault: api.FaultUnlock}, f},
	} {
		steps := []trial.MutexStep{{State: 2, F: f, Behind: 3, G: f, A: k.a}}
		l := trial.Then(next, steps)
		if len(l) != 1 || l[0].State != 2 || l[0].F != f || l[0].Behind != 3 || l[0].G != k.g || !trial.SameAct(l[0].A, k.want) {
			t.Errorf("behind %+v: %+v", k.a, l)
		}
		if steps[0].G != f || !trial.SameAct(steps[0].A, k.a) {
			t.Errorf("what was handed in is changed: %+v", steps)
		}
	}
	if g := trial.Next(2)(f); g != (api.Frame{Op: 36, Stage: 2, Since: -1}) {
		t.Errorf("the next frame: %+v", g)
	}
}

// P16.1, P18.1, P19.1: the steps that hang on the clock are those of a mutex; where another clock, or another patience, is gone by, that is told of.
func TestClockSteps(t *testing.T) {
	at := func(by, more int64) func(now, patience int64) trial.Call {
		return func(now, patience int64) trial.Call { return lockingAt(2, now+by, patience+more).last }
	}
	for stage := range 4 {
		steps := trial.ClockSteps(36, stage)
		holds(t, "right", "", func(t trial.T) { trial.CheckClock(t, at(0, 0), api.KindRW, state, steps) })
		holds(t, "another clock", "not {", func(t trial.T) { trial.CheckClock(t, at(1, 0), api.KindRW, state, steps) })
		holds(t, "another patience", "not {", func(t trial.T) { trial.CheckClock(t, at(0, 1), api.KindRW, state, steps) })
		for _, s := range steps {
			if s.F.Stage != stage || s.G.Stage != stage {
				t.Errorf("of stage %d: %+v", stage, s)
			}
		}
	}
}

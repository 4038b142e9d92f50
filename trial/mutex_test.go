package trial_test

import (
	"math"
	"slices"
	"testing"

	"torpor/api"
	"torpor/mutex"
	"torpor/step"
	"torpor/trial"
)

// P15.1, P16.1, P18.1: states are with each of the bits, and without it, of none who waits, and of more; the least and the greatest word are two of them.
func TestStates(t *testing.T) {
	l := trial.States()
	for _, n := range []int64{0, 1, 12} {
		for bits := range int64(8) {
			if !slices.Contains(l, n*8+bits) {
				t.Errorf("no %d", n*8+bits)
			}
		}
	}
	for _, edges := range [][]int64{l, trial.Moments()} {
		if !slices.Contains(edges, math.MinInt64) || !slices.Contains(edges, math.MaxInt64) || !slices.Contains(edges, -1) {
			t.Errorf("edges: %v", edges)
		}
	}
}

// P16.1, P18.1: frames are of that op and stage, of each Phase and of others, with an Old that is the state and with others, since each moment.
func TestMutexFrames(t *testing.T) {
	for _, state := range trial.States() {
		type key struct {
			phase int
			old   bool
			since int64
		}
		met := map[key]int{}
		for _, f := range trial.MutexFrames(34, 3, state) {
			if f.Op != 34 || f.Stage != 3 {
				t.Errorf("a frame: %+v", f)
			}
			met[key{f.Phase, f.Old == state, f.Since}]++
		}
		for phase := -1; phase <= 5; phase++ {
			for _, since := range trial.Moments() {
				if met[key{phase, true, since}] == 0 || met[key{phase, false, since}] == 0 {
					t.Errorf("of %d no frame of Phase %d since %d", state, phase, since)
				}
			}
		}
	}
}

// state are words of that state alone.
func state(s int64) [6]int64 {
	return [6]int64{s}
}

// lockingOf is the step of locking within a stage of that number: behind it the next one begins.
func lockingOf(next int) trial.Call {
	do := func(o api.Obj, f api.Frame) trial.Answer {
		then := api.Frame{Op: f.Op, Stage: next, Since: -1}
		o, f, a := mutex.Lock(o, f, 7, 20)
		return trial.Of(step.Then(then, o, f, a))
	}
	return trial.Call{Name: "locking", Step: do, Want: do}
}

// unlocking is the step of unlocking.
func unlocking() trial.Call {
	do := func(o api.Obj, f api.Frame) trial.Answer { return trial.Of(mutex.Unlock(o, f)) }
	return trial.Call{Name: "unlocking", Step: do, Want: do}
}

// P16.1, P18.1: the steps that are written out are those of a mutex, whatever the op and the stage are, and of each Phase.
func TestMutexSteps(t *testing.T) {
	for stage := range 4 {
		for _, op := range []int{30, 34, 36} {
			locks, unlocks := trial.LockSteps(op, stage, stage+1), trial.UnlockSteps(op, stage)
			holds(t, "locking", "", func(t trial.T) { lockingOf(stage+1).CheckMutex(t, api.KindRW, state, locks) })
			holds(t, "unlocking", "", func(t trial.T) { unlocking().CheckMutex(t, api.KindOnce, state, unlocks) })
			for _, s := range slices.Concat(locks, unlocks) {
				if s.F.Stage != stage {
					t.Errorf("of stage %d: %+v", stage, s)
				}
			}
			for phase := -1; phase <= 5; phase++ {
				of := func(s trial.MutexStep) bool { return s.F.Phase == phase }
				if !slices.ContainsFunc(locks, of) || phase < 5 && !slices.ContainsFunc(unlocks, of) {
					t.Errorf("none of Phase %d", phase)
				}
			}
		}
	}
	// Where they aren't that is told of.
	holds(t, "the wrong way", "not {", func(t trial.T) { unlocking().CheckMutex(t, api.KindRW, state, trial.LockSteps(30, 0, 1)) })
	holds(t, "another stage", "not {", func(t trial.T) { lockingOf(2).CheckMutex(t, api.KindRW, state, trial.LockSteps(30, 0, 1)) })
	holds(t, "other words", "not {", func(t trial.T) {
		odd := func(s int64) [6]int64 { return [6]int64{s, s} }
		lockingOf(1).CheckMutex(t, api.KindRW, odd, trial.LockSteps(30, 0, 1))
	})
}

package trial

import (
	"math"

	"torpor/api"
)

// Moments are numbers at the edges of a clock, of what one waits since, and of a patience.
func Moments() []int64 {
	return []int64{math.MinInt64, -1, 0, 1, 20, math.MaxInt64}
}

// States are states of a mutex: locked or not, with one who is woken or without, starving or not, of none, one and more who wait; and words at the edges.
func States() []int64 {
	l := []int64{math.MinInt64, math.MinInt64 + 1, math.MinInt64 + 4, math.MaxInt64, math.MaxInt64 - 1, -1, -8, -7}
	for _, n := range []int64{0, 1, 2, 12, 1 << 29} {
		for bits := range int64(8) {
			l = append(l, n*8+bits)
		}
	}
	return l
}

// MutexFrames are frames of a stage within which a mutex of that state is locked, or unlocked: of each Phase, and of some that there aren't, with an Old that is the state, and ones that aren't, since each moment.
func MutexFrames(op, stage int, state int64) []api.Frame {
	var l []api.Frame
	for phase := -1; phase <= 5; phase++ {
		for _, old := range []int64{state, state ^ 1, state + 8, 8, 12, 0} {
			for k, since := range Moments() {
				f := api.Frame{Op: op, Stage: stage, Phase: phase, Old: old, Since: since, Left: 3, Awoke: k%2 == 0, Starve: k%3 == 0}
				l = append(l, f)
			}
		}
	}
	return l
}

// MutexStep is a step of a mutex: its state, and the frame, before the step, and behind it, and the act.
type MutexStep struct {
	State  int64
	F      api.Frame
	Behind int64
	G      api.Frame
	A      api.Act
}

// mutexFrame is a frame of a stage, of that Phase, Old and Since.
func mutexFrame(op, stage, phase int, old, since int64) api.Frame {
	return api.Frame{Op: op, Stage: stage, Phase: phase, Old: old, Since: since}
}

// oddOf is a frame of a stage, and of that Phase, all else of which holds something.
func oddOf(stage, phase int) api.Frame {
	f := Odd(stage)
	f.Phase = phase
	return f
}

// LockSteps are steps of locking within a stage that is the last one, by answers written out, of each Phase; the clock is 7, the patience 20.
func LockSteps(op, stage int) []MutexStep {
	frame := func(phase int, old, since int64) api.Frame { return mutexFrame(op, stage, phase, old, since) }
	begin := frame(0, 0, -1)
	waits := api.Frame{Op: op, Stage: stage, Phase: 3, Old: 1, Since: 7, Need: 2}
	front := api.Frame{Op: op, Stage: stage, Phase: 3, Old: 9, Since: 3, Need: 2, Front: true}
	got, starved := frame(3, 1, 5), frame(3, 1, -14)
	come, handed := frame(2, 2, 5), frame(4, 12, -14)
	come.Awoke = true
	handed.Starve = true
	oddCome, oddWaits := oddOf(stage, 2), oddOf(stage, 3)
	done := func(state int64, f api.Frame, behind int64) MutexStep {
		return MutexStep{state, f, behind, api.Frame{}, api.Act{Done: true}}
	}
	l := []MutexStep{
		done(0, begin, 1), done(0, api.Frame{Stage: stage}, 1), done(0, oddOf(stage, 0), 1),
		{1, oddOf(stage, 0), 1, oddOf(stage, 1), api.Act{}},
		{1, begin, 1, frame(1, 0, -1), api.Act{}}, {8, begin, 8, frame(1, 0, -1), api.Act{}},
		{9, frame(1, 3, -1), 9, frame(2, 9, -1), api.Act{}}, {0, frame(1, 3, -1), 0, frame(2, 0, -1), api.Act{}},
		{9, frame(2, 1, -1), 9, frame(1, 1, -1), api.Act{}},
		{1, frame(2, 1, -1), 9, waits, api.Act{}}, {9, frame(2, 9, 3), 17, front, api.Act{}},
		done(0, frame(2, 0, -1), 1), done(10, frame(2, 10, 3), 11),
		{6, oddCome, 12, oddWaits, api.Act{}},
		{2, got, 2, come, api.Act{}}, {12, starved, 12, handed, api.Act{}},
		done(12, handed, 1), done(20, frame(4, 20, 5), 9),
	}
	for _, other := range []int{0, 26, 31, 34, 41, 99, -1} {
		l = append(l, done(0, mutexFrame(other, stage, 0, 0, -1), 1))
	}
	for _, phase := range Others(5) {
		l = append(l, MutexStep{0, frame(phase, 1, 2), 0, frame(phase, 1, 2), api.Act{}})
	}
	return l
}

// UnlockSteps are steps of unlocking within a stage that is the last one, by answers written out, of each Phase.
func UnlockSteps(op, stage int) []MutexStep {
	frame := func(phase int, old int64) api.Frame { return mutexFrame(op, stage, phase, old, -1) }
	var l []MutexStep
	for _, s := range []int64{0, 2, 4, 8, 12, -2, math.MinInt64} {
		for _, f := range []api.Frame{frame(0, 0), oddOf(stage, 0)} {
			l = append(l, MutexStep{s, f, s, api.Frame{}, api.Act{Fault: api.FaultUnlock}})
		}
	}
	oddWake, oddGive := oddOf(stage, 1), oddOf(stage, 3)
	oddWake.Old, oddGive.Old = 8, 8
	isDone, gives, hands := api.Act{Done: true}, api.Act{Done: true, Give: 2}, api.Act{Done: true, Give: 2, Hand: true}
	l = append(l, []MutexStep{
		{1, frame(0, 0), 0, api.Frame{}, isDone}, {1, api.Frame{Stage: stage}, 0, api.Frame{}, isDone}, {1, oddOf(stage, 0), 0, api.Frame{}, isDone},
		{9, frame(0, 0), 8, frame(1, 8), api.Act{}}, {13, frame(0, 0), 12, frame(2, 12), api.Act{}}, {9, oddOf(stage, 0), 8, oddWake, api.Act{}},
		{9, frame(1, 8), 9, frame(1, 9), api.Act{}}, {8, frame(1, 8), 2, frame(3, 8), api.Act{}}, {8, oddWake, 2, oddGive, api.Act{}},
		{9, frame(1, 9), 9, api.Frame{}, isDone}, {2, frame(1, 2), 2, api.Frame{}, isDone}, {10, frame(1, 10), 10, api.Frame{}, isDone}, {12, frame(1, 12), 12, api.Frame{}, isDone}, {6, oddOf(stage, 1), 6, api.Frame{}, isDone},
		{12, frame(2, 12), 12, api.Frame{}, hands}, {12, oddOf(stage, 2), 12, api.Frame{}, hands},
		{2, frame(3, 8), 2, api.Frame{}, gives}, {2, oddGive, 2, api.Frame{}, gives},
	}...)
	for _, other := range []int{0, 26, 31, 34, 41, 99, -1} {
		l = append(l, MutexStep{1, mutexFrame(other, stage, 0, 0, -1), 0, api.Frame{}, isDone})
	}
	for _, phase := range Others(4) {
		l = append(l, MutexStep{1, frame(phase, 8), 1, frame(phase, 8), api.Act{}})
	}
	return l
}

// Then are steps of a mutex within a stage that isn't the last one: behind what is done there the next frame begins, which hangs on the one before, and what is given is given.
func Then(next func(f api.Frame) api.Frame, steps []MutexStep) []MutexStep {
	var l []MutexStep
	for _, s := range steps {
		if s.A.Done {
			s.G, s.A = next(s.F), api.Act{Give: s.A.Give, Hand: s.A.Hand}
		}
		l = append(l, s)
	}
	return l
}

// Next tells of a frame the one with which a stage begins behind it.
func Next(stage int) func(f api.Frame) api.Frame {
	return func(f api.Frame) api.Frame { return api.Frame{Op: f.Op, Stage: stage, Since: -1} }
}

// ClockStep is a step of a mutex at a time, with a patience.
type ClockStep struct {
	Now, Patience int64
	MutexStep
}

// ClockSteps are steps of locking within a stage that hang on the clock, by answers written out: who comes waits since now, unless he waits already; and who is woken starves if he waited for longer than the patience: just that long, one tick less, one more; also where the difference is cut to 64 bits.
func ClockSteps(op, stage int) []ClockStep {
	var l []ClockStep
	for _, now := range append(Moments(), 5, 1<<33) {
		for _, since := range append(Moments(), 5, -2) {
			f := mutexFrame(op, stage, 2, 9, since)
			g := api.Frame{Op: op, Stage: stage, Phase: 3, Old: 9, Since: now, Need: 2}
			if since >= 0 {
				g.Since, g.Front = since, true
			}
			l = append(l, ClockStep{now, 20, MutexStep{9, f, 17, g, api.Act{}}})
		}
	}
	const least, most = math.MinInt64, math.MaxInt64
	for _, k := range []struct {
		now, since, patience int64
		starves              bool
	}{
		{29, 10, 20, false}, {30, 10, 20, false}, {31, 10, 20, true}, {31, 10, 21, false}, {10, 10, 0, false}, {11, 10, 0, true}, {9, 10, 0, false},
		{10, 10, -1, true}, {10, 11, -1, false}, {19, -1, 20, false}, {20, -1, 20, true}, {0, 0, 20, false}, {1 << 33, 0, 1 << 33, false}, {1<<33 + 1, 0, 1 << 33, true},
		{1 << 32, 0, 5, true}, {most, 0, most, false}, {most, 0, most - 1, true}, {0, -1, least, true}, {7, 7, most, false},
		{most, -1, most, false}, {most, -1, least, false}, {most, -2, least, true}, {least, 1, most - 1, true}, {least, 1, most, false}, {least, 0, least, false},
	} {
		for _, starved := range []bool{false, true} {
			f, come, handed := mutexFrame(op, stage, 3, 1, k.since), mutexFrame(op, stage, 2, 2, k.since), mutexFrame(op, stage, 4, 12, k.since)
			f.Starve, come.Starve, handed.Starve = starved, k.starves || starved, k.starves || starved
			come.Awoke = true
			l = append(l, ClockStep{k.now, k.patience, MutexStep{2, f, 2, come, api.Act{}}}, ClockStep{k.now, k.patience, MutexStep{12, f, 12, handed, api.Act{}}})
		}
	}
	return l
}

// CheckMutex holds steps of a mutex against the answers that are told, of objects of that kind and of others, whose words are told by the state.
func (c Call) CheckMutex(t T, kind int, words func(state int64) [6]int64, steps []MutexStep) {
	t.Helper()
	for _, s := range steps {
		c.CheckWords(t, kind, words(s.State), s.F, words(s.Behind), s.G, s.A)
	}
}

// CheckClock is CheckMutex of steps that hang on the clock: which call makes one is told of the time, and the patience.
func CheckClock(t T, at func(now, patience int64) Call, kind int, words func(state int64) [6]int64, steps []ClockStep) {
	t.Helper()
	for _, s := range steps {
		at(s.Now, s.Patience).CheckMutex(t, kind, words, []MutexStep{s.MutexStep})
	}
}

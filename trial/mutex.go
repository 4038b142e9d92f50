package trial

import (
	"math"

	"torpor/api"
)

// Moments are numbers at the edges of a clock, of what one waits since, and of a patience.
func Moments() []int64 {
	return []int64{math.MinInt64, -1, 0, 1, 20, math.MaxInt64}
}

// States are states of a mutex: locked or not, with one who is woken or without, starving or not, of none, one and more who wait; and words at the edges.
func States() []int64 {
	l := []int64{math.MinInt64, math.MinInt64 + 1, math.MinInt64 + 4, math.MaxInt64, math.MaxInt64 - 1, -1, -8, -7}
	for _, n := range []int64{0, 1, 2, 12, 1 << 29} {
		for bits := range int64(8) {
			l = append(l, n*8+bits)
		}
	}
	return l
}

// MutexFrames are frames of a stage within which a mutex of that state is locked, or unlocked: of each Phase, and of some that there aren't, with an Old that is the state, and ones that aren't, since each moment.
func MutexFrames(op, stage int, state int64) []api.Frame {
	var l []api.Frame
	for phase := -1; phase <= 5; phase++ {
		for _, old := range []int64{state, state ^ 1, state + 8, 8, 12, 0} {
			for k, since := range Moments() {
				f := api.Frame{Op: op, Stage: stage, Phase: phase, Old: old, Since: since, Left: 3, Awoke: k%2 == 0, Starve: k%3 == 0}
				l = append(l, f)
			}
		}
	}
	return l
}

// MutexStep is a step of a mutex: its state, and the frame, before the step, and behind it, and the act.
type MutexStep struct {
	State  int64
	F      api.Frame
	Behind int64
	G      api.Frame
	A      api.Act
}

// mutexFrame is a frame of a stage, of that Phase, Old and Since.
func mutexFrame(op, stage, phase int, old, since int64) api.Frame {
	return api.Frame{Op: op, Stage: stage, Phase: phase, Old: old, Since: since}
}

// LockSteps are steps of locking within a stage, by answers written out, of each Phase; the clock is 7, the patience 20. Behind what is done a new frame of the next stage begins.
func LockSteps(op, stage, next int) []MutexStep {
	then := func(op int) api.Frame { return api.Frame{Op: op, Stage: next, Since: -1} }
	frame := func(phase int, old, since int64) api.Frame { return mutexFrame(op, stage, phase, old, since) }
	begin := frame(0, 0, -1)
	waits := api.Frame{Op: op, Stage: stage, Phase: 3, Old: 1, Since: 7, Need: 2}
	front := api.Frame{Op: op, Stage: stage, Phase: 3, Old: 9, Since: 3, Need: 2, Front: true}
	got, starved := frame(3, 1, 5), frame(3, 1, -14)
	come, handed := frame(2, 2, 5), frame(4, 12, -14)
	come.Awoke = true
	handed.Starve = true
	oddBegin, oddLook, oddCome, oddWaits := Odd(stage), Odd(stage), Odd(stage), Odd(stage)
	oddBegin.Phase, oddLook.Phase, oddCome.Phase, oddWaits.Phase = 0, 1, 2, 3
	l := []MutexStep{
		{0, begin, 1, then(op), api.Act{}}, {0, api.Frame{Stage: stage}, 1, then(0), api.Act{}},
		{0, oddBegin, 1, then(oddBegin.Op), api.Act{}}, {1, oddBegin, 1, oddLook, api.Act{}},
		{1, begin, 1, frame(1, 0, -1), api.Act{}}, {8, begin, 8, frame(1, 0, -1), api.Act{}},
		{9, frame(1, 3, -1), 9, frame(2, 9, -1), api.Act{}}, {0, frame(1, 3, -1), 0, frame(2, 0, -1), api.Act{}},
		{9, frame(2, 1, -1), 9, frame(1, 1, -1), api.Act{}},
		{1, frame(2, 1, -1), 9, waits, api.Act{}}, {9, frame(2, 9, 3), 17, front, api.Act{}},
		{0, frame(2, 0, -1), 1, then(op), api.Act{}}, {10, frame(2, 10, 3), 11, then(op), api.Act{}},
		{6, oddCome, 12, oddWaits, api.Act{}},
		{2, got, 2, come, api.Act{}}, {12, starved, 12, handed, api.Act{}},
		{12, handed, 1, then(op), api.Act{}}, {20, frame(4, 20, 5), 9, then(op), api.Act{}},
	}
	for _, other := range []int{0, 26, 31, 34, 41, 99, -1} {
		l = append(l, MutexStep{0, mutexFrame(other, stage, 0, 0, -1), 1, then(other), api.Act{}})
	}
	for _, phase := range Others(5) {
		l = append(l, MutexStep{0, frame(phase, 1, 2), 0, frame(phase, 1, 2), api.Act{}})
	}
	return l
}

// UnlockSteps are steps of unlocking within a stage that is the last one, by answers written out, of each Phase.
func UnlockSteps(op, stage int) []MutexStep {
	frame := func(phase int, old int64) api.Frame { return mutexFrame(op, stage, phase, old, -1) }
	var l []MutexStep
	for _, s := range []int64{0, 2, 4, 8, 12, -2, math.MinInt64} {
		l = append(l, MutexStep{s, frame(0, 0), s, api.Frame{}, api.Act{Fault: api.FaultUnlock}})
	}
	l = append(l,
		MutexStep{1, frame(0, 0), 0, api.Frame{}, api.Act{Done: true}}, MutexStep{1, api.Frame{Stage: stage}, 0, api.Frame{}, api.Act{Done: true}},
		MutexStep{9, frame(0, 0), 8, frame(1, 8), api.Act{}}, MutexStep{13, frame(0, 0), 12, frame(2, 12), api.Act{}},
		MutexStep{9, frame(1, 8), 9, frame(1, 9), api.Act{}}, MutexStep{8, frame(1, 8), 2, frame(3, 8), api.Act{}},
		MutexStep{9, frame(1, 9), 9, api.Frame{}, api.Act{Done: true}}, MutexStep{2, frame(1, 2), 2, api.Frame{}, api.Act{Done: true}},
		MutexStep{12, frame(2, 12), 12, api.Frame{}, api.Act{Done: true, Give: 2, Hand: true}},
		MutexStep{2, frame(3, 8), 2, api.Frame{}, api.Act{Done: true, Give: 2}})
	for _, phase := range Others(4) {
		l = append(l, MutexStep{1, frame(phase, 8), 1, frame(phase, 8), api.Act{}})
	}
	return l
}

// CheckMutex holds steps of a mutex against the answers that are told, of objects of that kind and of others, whose words are told by the state.
func (c Call) CheckMutex(t T, kind int, words func(state int64) [6]int64, steps []MutexStep) {
	t.Helper()
	for _, s := range steps {
		c.CheckWords(t, kind, words(s.State), s.F, words(s.Behind), s.G, s.A)
	}
}

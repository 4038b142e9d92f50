package once_test

import (
	"math"

	"torpor/api"
	"torpor/mutex"
	"torpor/once"
	"torpor/trial"
)

const (
	least = math.MinInt64
	most  = math.MaxInt64
)

// wantOnce is what a step of who comes must answer, by the chapter's words.
func wantOnce(o api.Obj, f api.Frame, now, patience int64) trial.Answer {
	switch f.Stage {
	case 0:
		if o.W[2] == 1 {
			return trial.Answer{O: o, A: api.Act{Done: true, Value: 0}}
		}
		f.Stage, f.Phase = 1, 0
	case 1:
		x := trial.Of(mutex.Lock(o, f, now, patience))
		if x.A.Done {
			x.F, x.A = api.Frame{Op: f.Op, Stage: 2, Since: -1}, api.Act{}
		}
		return x
	case 2:
		if o.W[2] != 1 {
			return trial.Answer{O: o, A: api.Act{Done: true, Value: 1}}
		}
		f.Stage, f.Phase = 3, 0
	case 3:
		return trial.Of(mutex.Unlock(o, f))
	}
	return trial.Answer{O: o, F: f}
}

// wantEnd is what a step of the end must answer, by the chapter's words.
func wantEnd(o api.Obj, f api.Frame) trial.Answer {
	switch f.Stage {
	case 0:
		if !odd(o.W[0]) {
			return trial.Answer{O: o, A: api.Act{Fault: api.FaultUnlock}}
		}
		o.W[2] = 1
		f.Stage, f.Phase = 1, 0
	case 1:
		return trial.Of(mutex.Unlock(o, f))
	}
	return trial.Answer{O: o, F: f}
}

// odd: has a word bit 0?
func odd(w int64) bool {
	return w%2 != 0
}

// coming is the step of who comes, at a time, with a patience.
func coming(now, patience int64) trial.Call {
	return trial.Call{
		Name: "Once",
		Step: func(o api.Obj, f api.Frame) trial.Answer { return trial.Of(once.Once(o, f, now, patience)) },
		Want: func(o api.Obj, f api.Frame) trial.Answer { return wantOnce(o, f, now, patience) },
	}
}

// ending is the step of the end.
func ending() trial.Call {
	return trial.Call{
		Name: "End",
		Step: func(o api.Obj, f api.Frame) trial.Answer { return trial.Of(once.End(o, f)) },
		Want: wantEnd,
	}
}

// calls are both of them; the clock is 7, the patience 20.
func calls() []trial.Call {
	return []trial.Call{coming(7, 20), ending()}
}

// words are those of a mutex of that state, and that third word; the others are to stay as they are.
func words(state, third int64) [6]int64 {
	return [6]int64{state, -3, third, least, most, 12}
}

// thirds are what the third word may be: 1, and others, of which some have its lower bits.
func thirds() []int64 {
	return []int64{1, 0, 2, 3, -1, -2, 9, 1<<32 + 1, 1 << 32, least, least + 1, most, most - 1}
}

// begin is the frame with which steps begin.
func begin(op int) api.Frame {
	return api.Frame{Op: op, Since: -1}
}

// frames are frames of a stage: such as come to be, and some that hold more, or less.
func frames(stage int) []api.Frame {
	l := trial.Frames(api.OpOnce, stage, -5)
	for phase := range 6 {
		l = append(l, api.Frame{Op: api.OpOnceEnd, Stage: stage, Phase: phase, Old: 8, Since: 3, Awoke: phase%2 == 0, Starve: phase%3 == 0})
	}
	return l
}

// at is a frame, but of that Stage and Phase.
func at(f api.Frame, stage, phase int) api.Frame {
	f.Stage, f.Phase = stage, phase
	return f
}

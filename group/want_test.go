package group_test

import (
	"math"
	"testing"

	"torpor/api"
	"torpor/group"
	"torpor/trial"
)

// Max is the chapter's MaxCount.
const Max = 1073741824

const (
	least = math.MinInt64
	most  = math.MaxInt64
)

// within: is a number from one to another one?
func within(x, from, to int64) bool {
	return from <= x && x <= to
}

// wantCount is what a step of counting must answer, by the chapter's words.
func wantCount(o api.Obj, f api.Frame, by int64) trial.Answer {
	switch f.Stage {
	case 0:
		if !within(by, -Max, Max) || !within(o.W[0]+by, 0, Max) {
			return trial.Answer{O: o, A: api.Act{Fault: api.FaultCount}}
		}
		o.W[0] += by
		if o.W[0] > 0 || o.W[1] == 0 {
			return trial.Answer{O: o, A: api.Act{Done: true}}
		}
		f.Left, o.W[1], f.Stage = o.W[1], 0, 1
	case 1:
		f.Left--
		if f.Left <= 0 {
			return trial.Answer{O: o, A: api.Act{Done: true, Give: 3}}
		}
		return trial.Answer{O: o, F: f, A: api.Act{Give: 3}}
	}
	return trial.Answer{O: o, F: f}
}

// wantWait is what a step of waiting must answer, by the chapter's words.
func wantWait(o api.Obj, f api.Frame) trial.Answer {
	done := trial.Answer{O: o, A: api.Act{Done: true}}
	switch f.Stage {
	case 0:
		if o.W[0] == 0 {
			return done
		}
		o.W[1]++
		f.Need, f.Stage = 3, 1
	case 1:
		return done
	}
	return trial.Answer{O: o, F: f}
}

// counting is the step of counting by so much.
func counting(by int64) trial.Call {
	return trial.Call{
		Name: "Count",
		Step: func(o api.Obj, f api.Frame) trial.Answer { return trial.Of(group.Count(o, f, by)) },
		Want: func(o api.Obj, f api.Frame) trial.Answer { return wantCount(o, f, by) },
	}
}

// waiting is the step of waiting.
func waiting() trial.Call {
	return trial.Call{
		Name: "Wait",
		Step: func(o api.Obj, f api.Frame) trial.Answer { return trial.Of(group.Wait(o, f)) },
		Want: wantWait,
	}
}

// words are those with that counter, for which so many wait; the others are to stay as they are.
func words(counter, waits int64) [6]int64 {
	return [6]int64{counter, waits, -3, least, most, 12}
}

// begins are frames with which steps of counting begin, and some that hold more, or less.
func begins() []api.Frame {
	return append(trial.Frames(api.OpCount, 0, -5), begin(api.OpCount))
}

// begin is the frame with which steps begin.
func begin(op int) api.Frame {
	return api.Frame{Op: op, Since: -1}
}

// at is a frame, but of that Stage, and with that Left.
func at(f api.Frame, stage int, left int64) api.Frame {
	f.Stage, f.Left = stage, left
	return f
}

// isDone is the act where no more is to be done.
var isDone = api.Act{Done: true}

// isFault is the act where too much is counted.
var isFault = api.Act{Fault: api.FaultCount}

// checkAdd holds a step of counting against an answer that is told, from whatever frame it begins.
func checkAdd(t *testing.T, by int64, w, want [6]int64, a api.Act) {
	t.Helper()
	for _, f := range begins() {
		counting(by).CheckWords(t, api.KindGroup, w, f, want, api.Frame{}, a)
	}
}

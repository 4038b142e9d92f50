package rw_test

import (
	"math/big"
	"testing"

	"torpor/api"
	"torpor/mutex"
	"torpor/rw"
	"torpor/trial"
)

// Max is the chapter's.
const Max = 1048576

// sum is a number more by another one, cut to 64 bits.
func sum(x, by int64) int64 {
	all := new(big.Int).Add(big.NewInt(x), big.NewInt(by))
	low := all.And(all, new(big.Int).SetUint64(1<<64-1))
	return int64(low.Uint64())
}

// over is the answer where a step is done.
func over(o api.Obj) trial.Answer {
	return trial.Answer{O: o, A: api.Act{Done: true}}
}

// fault is the answer where what isn't locked is unlocked.
func fault(o api.Obj) trial.Answer {
	return trial.Answer{O: o, A: api.Act{Fault: api.FaultUnlock}}
}

// wantRLock is what a step of reading must answer, by the chapter's words.
func wantRLock(o api.Obj, f api.Frame) trial.Answer {
	switch f.Stage {
	case 0:
		o.W[4] = sum(o.W[4], 1)
		if o.W[4] < 0 {
			f.Need, f.Stage = 4, 1
			break
		}
		return over(o)
	case 1:
		return over(o)
	}
	return trial.Answer{O: o, F: f}
}

// wantRUnlock is what a step of reading no more must answer, by the chapter's words.
func wantRUnlock(o api.Obj, f api.Frame) trial.Answer {
	switch f.Stage {
	case 0:
		if o.W[4] == 0 || o.W[4] == -Max {
			return fault(o)
		}
		o.W[4] = sum(o.W[4], -1)
		if o.W[4] >= 0 {
			return over(o)
		}
		f.Stage = 1
	case 1:
		o.W[5] = sum(o.W[5], -1)
		if o.W[5] != 0 {
			return over(o)
		}
		f.Stage = 2
	case 2:
		return trial.Answer{O: o, A: api.Act{Done: true, Give: 3}}
	}
	return trial.Answer{O: o, F: f}
}

// wantWLock is what a step of writing must answer, by the chapter's words.
func wantWLock(o api.Obj, f api.Frame, now, patience int64) trial.Answer {
	switch f.Stage {
	case 0:
		x := trial.Of(mutex.Lock(o, f, now, patience))
		if x.A.Done {
			x.F, x.A = api.Frame{Op: f.Op, Stage: 1, Since: -1}, api.Act{}
		}
		return x
	case 1:
		was := o.W[4]
		o.W[4] = sum(o.W[4], -Max)
		if was == 0 {
			return over(o)
		}
		f.Left, f.Stage = was, 2
	case 2:
		o.W[5] = sum(o.W[5], f.Left)
		if o.W[5] == 0 {
			return over(o)
		}
		f.Need, f.Stage = 3, 3
	case 3:
		return over(o)
	}
	return trial.Answer{O: o, F: f}
}

// wantWUnlock is what a step of writing no more must answer, by the chapter's words.
func wantWUnlock(o api.Obj, f api.Frame) trial.Answer {
	switch f.Stage {
	case 0:
		if o.W[4] >= 0 {
			return fault(o)
		}
		o.W[4] = sum(o.W[4], Max)
		f.Left, f.Stage = o.W[4], 1
	case 1:
		if f.Left > 0 {
			f.Left = sum(f.Left, -1)
			return trial.Answer{O: o, F: f, A: api.Act{Give: 4}}
		}
		f.Stage, f.Phase = 2, 0
	case 2:
		return trial.Of(mutex.Unlock(o, f))
	}
	return trial.Answer{O: o, F: f}
}

// reading is the step of reading.
func reading() trial.Call {
	return trial.Call{
		Name: "RLock",
		Step: func(o api.Obj, f api.Frame) trial.Answer { return trial.Of(rw.RLock(o, f)) },
		Want: wantRLock,
	}
}

// leaving is the step of reading no more.
func leaving() trial.Call {
	return trial.Call{
		Name: "RUnlock",
		Step: func(o api.Obj, f api.Frame) trial.Answer { return trial.Of(rw.RUnlock(o, f)) },
		Want: wantRUnlock,
	}
}

// writing is the step of writing, at a time, with a patience.
func writing(now, patience int64) trial.Call {
	return trial.Call{
		Name: "WLock",
		Step: func(o api.Obj, f api.Frame) trial.Answer { return trial.Of(rw.WLock(o, f, now, patience)) },
		Want: func(o api.Obj, f api.Frame) trial.Answer { return wantWLock(o, f, now, patience) },
	}
}

// ending is the step of writing no more.
func ending() trial.Call {
	return trial.Call{
		Name: "WUnlock",
		Step: func(o api.Obj, f api.Frame) trial.Answer { return trial.Of(rw.WUnlock(o, f)) },
		Want: wantWUnlock,
	}
}

// calls are all of them; the clock is 7, the patience 20.
func calls() []trial.Call {
	return []trial.Call{reading(), leaving(), writing(7, 20), ending()}
}

// step is a row of a table: the words, and a frame, before a step, and behind it, and its act.
type step struct {
	w    [6]int64
	f    api.Frame
	want [6]int64
	g    api.Frame
	a    api.Act
}

// checkRows holds steps against the answers that are written out, of locks, and of objects that hold more.
func checkRows(t *testing.T, c trial.Call, rows []step) {
	t.Helper()
	for _, r := range rows {
		c.CheckWords(t, api.KindRW, r.w, r.f, r.want, r.g, r.a)
	}
}

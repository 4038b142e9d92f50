package mutex_test

import (
	"math/big"
	"testing"

	"torpor/api"
	"torpor/mutex"
	"torpor/trial"
)

// cut is a number of any length, cut to 64 bits.
func cut(x *big.Int) int64 {
	low := new(big.Int).And(x, new(big.Int).SetUint64(1<<64-1))
	return int64(low.Uint64())
}

// more is a number more by another one, cut to 64 bits.
func more(x, by int64) int64 {
	return cut(new(big.Int).Add(big.NewInt(x), big.NewInt(by)))
}

// less is a number less by another one, cut to 64 bits.
func less(x, by int64) int64 {
	return cut(new(big.Int).Sub(big.NewInt(x), big.NewInt(by)))
}

// bit: has a number the bit k?
func bit(x int64, k int) bool {
	return big.NewInt(x).Bit(k) == 1
}

// with is a number with the bit k, or without it.
func with(x int64, k int, set bool) int64 {
	var b uint
	if set {
		b = 1
	}
	return cut(new(big.Int).SetBit(big.NewInt(x), k, b))
}

// down is a number shifted down by three bits.
func down(x int64) int64 {
	return new(big.Int).Rsh(big.NewInt(x), 3).Int64()
}

// wantLock is what a step of locking must answer, by the chapter's words.
func wantLock(o api.Obj, f api.Frame, now, patience int64) trial.Answer {
	switch f.Phase {
	case 0:
		if o.W[0] == 0 {
			o.W[0] = 1
			return trial.Answer{O: o, A: api.Act{Done: true}}
		}
		f.Phase = 1
	case 1:
		f.Old, f.Phase = o.W[0], 2
	case 2:
		return wantCome(o, f, now)
	case 3:
		waited := less(now, f.Since)
		f.Starve = f.Starve || waited > patience
		f.Old = o.W[0]
		if bit(f.Old, 2) {
			f.Phase = 4
		} else {
			f.Awoke, f.Phase = true, 2
		}
	case 4:
		o.W[0] = less(o.W[0], 7)
		stays := f.Starve && down(f.Old) != 1
		if !stays {
			o.W[0] = less(o.W[0], 4)
		}
		return trial.Answer{O: o, A: api.Act{Done: true}}
	}
	return trial.Answer{O: o, F: f}
}

// wantCome is what a step of locking of Phase 2 must answer, by the chapter's words.
func wantCome(o api.Obj, f api.Frame, now int64) trial.Answer {
	if o.W[0] != f.Old {
		f.Phase = 1
		return trial.Answer{O: o, F: f}
	}
	w := f.Old
	if !bit(f.Old, 2) {
		w = with(w, 0, true)
	}
	if bit(f.Old, 0) || bit(f.Old, 2) {
		w = more(w, 8)
	}
	if f.Starve && bit(f.Old, 0) {
		w = with(w, 2, true)
	}
	if f.Awoke {
		w = with(w, 1, false)
	}
	o.W[0] = w
	if !bit(f.Old, 0) && !bit(f.Old, 2) {
		return trial.Answer{O: o, A: api.Act{Done: true}}
	}
	f.Front = f.Since >= 0
	if f.Since < 0 {
		f.Since = now
	}
	f.Need, f.Phase = 2, 3
	return trial.Answer{O: o, F: f}
}

// wantUnlock is what a step of unlocking must answer, by the chapter's words.
func wantUnlock(o api.Obj, f api.Frame) trial.Answer {
	switch f.Phase {
	case 0:
		if !bit(o.W[0], 0) {
			return trial.Answer{O: o, A: api.Act{Fault: api.FaultUnlock}}
		}
		o.W[0] = less(o.W[0], 1)
		switch {
		case o.W[0] == 0:
			return trial.Answer{O: o, A: api.Act{Done: true}}
		case bit(o.W[0], 2):
			f.Phase = 2
		default:
			f.Phase = 1
		}
		f.Old = o.W[0]
	case 1:
		switch {
		case down(f.Old) == 0, bit(f.Old, 0), bit(f.Old, 1), bit(f.Old, 2):
			return trial.Answer{O: o, A: api.Act{Done: true}}
		case o.W[0] != f.Old:
			f.Old = o.W[0]
		default:
			o.W[0] = with(less(f.Old, 8), 1, true)
			f.Phase = 3
		}
	case 2:
		return trial.Answer{O: o, A: api.Act{Done: true, Give: 2, Hand: true}}
	case 3:
		return trial.Answer{O: o, A: api.Act{Done: true, Give: 2}}
	}
	return trial.Answer{O: o, F: f}
}

// locking is the step of locking, at a time, with a patience.
func locking(now, patience int64) trial.Call {
	return trial.Call{
		Name: "Lock",
		Step: func(o api.Obj, f api.Frame) trial.Answer { return trial.Of(mutex.Lock(o, f, now, patience)) },
		Want: func(o api.Obj, f api.Frame) trial.Answer { return wantLock(o, f, now, patience) },
	}
}

// unlocking is the step of unlocking.
func unlocking() trial.Call {
	return trial.Call{
		Name: "Unlock",
		Step: func(o api.Obj, f api.Frame) trial.Answer { return trial.Of(mutex.Unlock(o, f)) },
		Want: wantUnlock,
	}
}

// checkLock holds a step of locking against the chapter's words.
func checkLock(t *testing.T, o api.Obj, f api.Frame, now, patience int64) {
	t.Helper()
	locking(now, patience).Check(t, o, f)
}

// checkUnlock holds a step of unlocking against the chapter's words.
func checkUnlock(t *testing.T, o api.Obj, f api.Frame) {
	t.Helper()
	unlocking().Check(t, o, f)
}

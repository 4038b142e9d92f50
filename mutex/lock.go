package mutex

import "torpor/api"

// The phases of locking.
const (
	lockAtOnce = iota
	lockLook
	lockCome
	lockWoken
	lockHanded
)

// lockedAtOnce: it is locked, if there is nothing in its way.
func lockedAtOnce(state int64, f api.Frame) (int64, api.Frame, api.Act) {
	if state == 0 {
		return done(locked)
	}
	f.Phase = lockLook
	return state, f, api.Act{}
}

// looked: the state is kept, so that the next step sees whether another task was between.
func looked(state int64, f api.Frame) api.Frame {
	f.Old = state
	f.Phase = lockCome
	return f
}

// came: it is locked, or the task is one more of those who wait.
func came(state int64, f api.Frame, now int64) (int64, api.Frame, api.Act) {
	if state != f.Old {
		f.Phase = lockLook
		return state, f, api.Act{}
	}
	if !has(f.Old, locked|starving) {
		return done(behindComing(f))
	}
	// Who was woken before, and came too late, is the first one again.
	f.Front = f.Since >= 0
	if !f.Front {
		f.Since = now
	}
	f.Need = semaphore
	f.Phase = lockWoken
	return behindComing(f), f, api.Act{}
}

// behindComing: the state behind one who comes.
func behindComing(f api.Frame) int64 {
	state := f.Old
	// A mutex that starves is handed to those who wait: nobody who comes takes it from them.
	if !has(f.Old, starving) {
		state |= locked
	}
	if has(f.Old, locked|starving) {
		state += waiter
	}
	if f.Starve && has(f.Old, locked) {
		state |= starving
	}
	// Who was woken has come, or waits again: another one may be woken.
	if f.Awoke {
		state &^= woken
	}
	return state
}

// wokenUp: who has got the semaphore has been handed the mutex, if that starves; else he comes again.
func wokenUp(state int64, f api.Frame, now, patience int64) api.Frame {
	f.Starve = f.Starve || now-f.Since > patience
	f.Old = state
	if has(state, starving) {
		f.Phase = lockHanded
		return f
	}
	f.Awoke = true
	f.Phase = lockCome
	return f
}

// handed: who was handed the mutex locks it, and waits no more.
func handed(state int64, f api.Frame) (int64, api.Frame, api.Act) {
	state += locked - waiter
	// Who hasn't waited long, or is the last one, ends the starving: hand to hand it goes slowly.
	if !f.Starve || howMany(f.Old) == 1 {
		state -= starving
	}
	return done(state)
}

package mutex

import "torpor/api"

// The phases of unlocking.
const (
	unlockAtOnce = iota
	unlockWake
	unlockHand
	unlockGive
)

// unlockedAtOnce: it isn't locked any more; more is to be done only where the state isn't 0 then.
func unlockedAtOnce(state int64, f api.Frame) (int64, api.Frame, api.Act) {
	if !has(state, locked) {
		return state, api.Frame{}, api.Act{Fault: api.FaultUnlock}
	}
	state -= locked
	if state == 0 {
		return done(state)
	}
	f.Old = state
	f.Phase = unlockWake
	if has(state, starving) {
		f.Phase = unlockHand
	}
	return state, f, api.Act{}
}

// wokeOne: one of those who wait is woken, if there is one, and nobody is there already who goes on.
func wokeOne(state int64, f api.Frame) (int64, api.Frame, api.Act) {
	if howMany(f.Old) == 0 || has(f.Old, locked|woken|starving) {
		return done(state)
	}
	// Another task was between: its state is looked at by the next step.
	if state != f.Old {
		f.Old = state
		return state, f, api.Act{}
	}
	f.Phase = unlockGive
	return (f.Old - waiter) | woken, f, api.Act{}
}

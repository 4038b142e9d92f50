// Package step is what the steps of objects of all kinds have in common. No layer: those layers that make such steps share it.
package step

import (
	"slices"

	"torpor/api"
)

// Own: an object whose lists are its own, so that what is done to it isn't seen in the other one.
func Own(o api.Obj) api.Obj {
	o.Notify.Waiters = slices.Clone(o.Notify.Waiters)
	o.Line = slices.Clone(o.Line)
	return o
}

// Done: nothing is left to do with an object.
func Done(o api.Obj) (api.Obj, api.Frame, api.Act) {
	return o, api.Frame{}, api.Act{Done: true}
}

// Fault: what is done wrongly with an object ends there.
func Fault(o api.Obj, x api.Fault) (api.Obj, api.Frame, api.Act) {
	return o, api.Frame{}, api.Act{Fault: x}
}

// Then: a step that is a stage of something else: where it is done, that isn't, but the next frame begins, and what the step gives is given.
func Then(next api.Frame, o api.Obj, f api.Frame, a api.Act) (api.Obj, api.Frame, api.Act) {
	if !a.Done {
		return o, f, a
	}
	return o, next, api.Act{Give: a.Give, Hand: a.Hand}
}

// Package fail ends a reading from wherever something is wrong, and catches it at one place. No layer: those that read bytes share it.
package fail

import "torpor/api"

// wrong is what a reading panics with: a kind of its own, so that no other panic is taken for it.
type wrong api.Errno

// With ends the reading.
func With(e api.Errno) {
	panic(wrong(e))
}

// If ends the reading, unless all is right.
func If(e api.Errno) {
	if e != api.OK {
		With(e)
	}
}

// Caught: what ended a reading; OK, if nothing did.
func Caught(read func()) (e api.Errno) {
	defer func() {
		what := recover()
		if what == nil {
			return
		}
		w, ok := what.(wrong)
		if !ok {
			panic(what)
		}
		e = api.Errno(w)
	}()
	read()
	return api.OK
}

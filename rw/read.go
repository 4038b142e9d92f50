package rw

import (
	"torpor/api"
	"torpor/step"
)

// The stages of reading.
const (
	readCome = iota
	readIn
)

// The stages of reading no more.
const (
	leaveCount = iota
	leaveWaited
	leaveGive
)

// comeToRead: there is one reader more, who is in, unless a writer is, or waits.
func comeToRead(o api.Obj, f api.Frame) (api.Obj, api.Frame, api.Act) {
	o.W[count]++
	if o.W[count] >= 0 {
		return step.Done(o)
	}
	f.Need = readerTurn
	f.Stage = readIn
	return o, f, api.Act{}
}

// leaveReading: there is one reader fewer; more is to be done only where a writer waits for it.
func leaveReading(o api.Obj, f api.Frame) (api.Obj, api.Frame, api.Act) {
	if o.W[count] == 0 || o.W[count] == -writing {
		return step.Fault(o, api.FaultUnlock)
	}
	o.W[count]--
	if o.W[count] >= 0 {
		return step.Done(o)
	}
	f.Stage = leaveWaited
	return o, f, api.Act{}
}

// leaveWaitedFor: the writer waits for one reader fewer, and for none any more behind the last one.
func leaveWaitedFor(o api.Obj, f api.Frame) (api.Obj, api.Frame, api.Act) {
	o.W[leaving]--
	// Below 0 the writer has come, but doesn't wait yet: it finds by itself that this one has left.
	if o.W[leaving] != 0 {
		return step.Done(o)
	}
	f.Stage = leaveGive
	return o, f, api.Act{}
}

package rw

import (
	"torpor/api"
	"torpor/mutex"
	"torpor/step"
)

// The stages of writing.
const (
	writeLock = iota
	writeCome
	writeWait
	writeIn
)

// The stages of writing no more.
const (
	endCount = iota
	endGive
	endUnlock
)

// lockWriters: writers come one by one.
func lockWriters(o api.Obj, f api.Frame, now, patience int64) (api.Obj, api.Frame, api.Act) {
	next := mutex.Begin(f.Op)
	next.Stage = writeCome
	o, f, a := mutex.Lock(o, f, now, patience)
	return step.Then(next, o, f, a)
}

// comeToWrite: whoever would read from now on waits; the writer is in, if nobody reads.
func comeToWrite(o api.Obj, f api.Frame) (api.Obj, api.Frame, api.Act) {
	f.Left = o.W[count]
	o.W[count] -= writing
	if f.Left == 0 {
		return step.Done(o)
	}
	f.Stage = writeWait
	return o, f, api.Act{}
}

// waitForReaders: the writer is in, if all who read have left since; else it waits for the others.
func waitForReaders(o api.Obj, f api.Frame) (api.Obj, api.Frame, api.Act) {
	o.W[leaving] += f.Left
	if o.W[leaving] == 0 {
		return step.Done(o)
	}
	f.Need = writerTurn
	f.Stage = writeIn
	return o, f, api.Act{}
}

// endWriting: whoever would read from now on needn't wait; those who wait already are counted.
func endWriting(o api.Obj, f api.Frame) (api.Obj, api.Frame, api.Act) {
	if o.W[count] >= 0 {
		return step.Fault(o, api.FaultUnlock)
	}
	o.W[count] += writing
	f.Left = o.W[count]
	f.Stage = endGive
	return o, f, api.Act{}
}

// letReaderIn: one of the readers who wait is let in; behind the last one writers may come again.
func letReaderIn(o api.Obj, f api.Frame) (api.Obj, api.Frame, api.Act) {
	if f.Left > 0 {
		f.Left--
		return o, f, api.Act{Give: readerTurn}
	}
	f.Stage = endUnlock
	f.Phase = 0
	return o, f, api.Act{}
}

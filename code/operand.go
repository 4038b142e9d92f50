package code

import (
	"math"

	"torpor/api"
)

// operand is what stands at A, B or C of an instruction.
type operand int

const (
	nothing operand = iota
	register
	number
	place
	cell
	// object and the number of a kind are an object of that kind.
	object
)

const (
	mutex     = object + api.KindMutex
	lock      = object + api.KindRW
	group     = object + api.KindGroup
	once      = object + api.KindOnce
	condition = object + api.KindCond
	weight    = object + api.KindWeight
)

// operands is what stands in an instruction.
type operands struct {
	a, b, c operand
}

// operandsOf: what stands in an instruction of an op; false, if there is no such op.
func operandsOf(op int) (operands, bool) {
	switch op {
	case api.OpEnd:
		return operands{}, true
	case api.OpSet:
		return operands{a: register, b: number}, true
	case api.OpMove, api.OpToReal, api.OpToInt, api.OpRecover:
		return operands{a: register, b: register}, true
	case api.OpAdd, api.OpSub, api.OpLess, api.OpRAdd, api.OpRSub, api.OpRMul, api.OpRDiv, api.OpRLess:
		return operands{a: register, b: register, c: register}, true
	case api.OpJump, api.OpDefer:
		return operands{a: place}, true
	case api.OpZero, api.OpSpawn:
		return operands{a: register, b: place}, true
	case api.OpLoad, api.OpStore, api.OpMore:
		return operands{a: register, b: cell}, true
	case api.OpSwap:
		return operands{a: register, b: cell, c: register}, true
	case api.OpOut, api.OpDraw, api.OpNow, api.OpPanic, api.OpSleep:
		return operands{a: register}, true
	case api.OpLock, api.OpUnlock:
		return operands{a: mutex}, true
	case api.OpRLock, api.OpRUnlock, api.OpWLock, api.OpWUnlock:
		return operands{a: lock}, true
	case api.OpCount:
		return operands{a: group, b: register}, true
	case api.OpWait:
		return operands{a: group}, true
	case api.OpOnce:
		return operands{a: once, b: register}, true
	case api.OpOnceEnd:
		return operands{a: once}, true
	case api.OpAwait:
		return operands{a: condition, b: mutex}, true
	case api.OpSignal, api.OpAll:
		return operands{a: condition}, true
	case api.OpTake, api.OpGive:
		return operands{a: weight, b: register}, true
	}
	return operands{}, false
}

// mayStand: may x stand in a program's instruction as such an operand?
func mayStand(p api.Program, o operand, x int) bool {
	switch o {
	case nothing:
		return x == 0
	case register:
		return isPlace(x, api.MaxRegs)
	case number:
		return isFrom(math.MinInt32, x, math.MaxInt32)
	case place:
		return isPlace(x, len(p.Code))
	case cell:
		return isPlace(x, p.Cells)
	}
	return isPlace(x, len(p.Kinds)) && p.Kinds[x] == int(o-object)
}

// isPlace: is x one of n places?
func isPlace(x, n int) bool {
	return x >= 0 && x < n
}

// isFrom: is x from the least to the most?
func isFrom(least, x, most int) bool {
	return x >= least && x <= most
}

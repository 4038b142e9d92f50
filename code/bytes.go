package code

import (
	"torpor/api"
	"torpor/fail"
	"torpor/varint"
)

// written: a program's bytes.
func written(p api.Program) []byte {
	b := put(nil, len(p.Code))
	for _, x := range p.Code {
		b = put(b, x.Op, x.A, x.B, x.C)
	}
	b = put(b, len(p.Kinds))
	for i, kind := range p.Kinds {
		b = put(b, kind, p.Sizes[i])
	}
	return put(b, p.Cells, p.Recs, p.Patience)
}

// put: numbers with a sign behind bytes.
func put(b []byte, numbers ...int) []byte {
	for _, x := range numbers {
		b = varint.AppendInt(b, int64(x))
	}
	return b
}

// reader is bytes, and how far they are read. Its methods go on from there, and end the reading where something is wrong.
type reader struct {
	b  []byte
	at int
}

// program: the next one.
func (r *reader) program() api.Program {
	var p api.Program
	for range r.count(api.MaxCode) {
		p.Code = append(p.Code, r.instruction())
	}
	for range r.count(api.MaxObjs) {
		p.Kinds = append(p.Kinds, r.number())
		p.Sizes = append(p.Sizes, r.number())
	}
	p.Cells = r.number()
	p.Recs = r.number()
	p.Patience = r.number()
	// Not earlier: an error of a number behind what may not be is told ahead of it.
	if !Right(p) {
		fail.With(api.ErrForm)
	}
	return p
}

// instruction: the next one.
func (r *reader) instruction() api.Ins {
	var x api.Ins
	x.Op = r.number()
	x.A = r.number()
	x.B = r.number()
	x.C = r.number()
	return x
}

// count: how many there are of what comes next.
func (r *reader) count(most int) int {
	n := r.number()
	if !isFrom(0, n, most) {
		fail.With(api.ErrLong)
	}
	return n
}

// number: the next one.
func (r *reader) number() int {
	x, next, e := varint.ReadInt(r.b, r.at)
	fail.If(e)
	r.at = next
	return int(x)
}

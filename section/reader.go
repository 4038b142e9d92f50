package section

import (
	"torpor/api"
	"torpor/crc"
	"torpor/octet"
	"torpor/varint"
)

// wrong is what a reading panics with: a kind of its own, so that no other panic is taken for it.
type wrong api.Errno

// end ends the reading.
func end(e api.Errno) {
	panic(wrong(e))
}

// must ends the reading, unless all is right.
func must(e api.Errno) {
	if e != api.OK {
		end(e)
	}
}

// caught: what ended a reading; OK, if nothing did.
func caught(read func()) (e api.Errno) {
	defer func() {
		what := recover()
		if what == nil {
			return
		}
		w, ok := what.(wrong)
		if !ok {
			panic(what)
		}
		e = api.Errno(w)
	}()
	read()
	return api.OK
}

// reader is bytes, and how far they are read. Its methods go on from there, and end the reading where something is wrong.
type reader struct {
	b  []byte
	at int
}

// sections: all up to the end.
func (r *reader) sections() []api.Section {
	var l []api.Section
	ahead := byte(noTag)
	for r.at < len(r.b) {
		s := r.section()
		if s.Tag <= ahead {
			end(api.ErrForm)
		}
		l = append(l, s)
		ahead = s.Tag
	}
	return l
}

// section: the next one.
func (r *reader) section() api.Section {
	from := r.at
	s := api.Section{Tag: r.tag()}
	s.Body = r.body()
	sum := crc.Sum(r.b[from:r.at])
	if r.number(sumWidth) != uint64(sum) {
		end(api.ErrSum)
	}
	return s
}

// tag: the next one.
func (r *reader) tag() byte {
	tag := byte(r.number(tagWidth))
	if tag == noTag {
		end(api.ErrForm)
	}
	return tag
}

// body: the next one, behind its length.
func (r *reader) body() []byte {
	n := r.length()
	body, next, e := octet.Cut(r.b, r.at, n)
	must(e)
	r.at = next
	return body
}

// length: of a body, the next one.
func (r *reader) length() int {
	n, next, e := varint.Read(r.b, r.at)
	must(e)
	if n > api.MaxBody {
		end(api.ErrLong)
	}
	r.at = next
	return int(n)
}

// number: the next one, of so many bytes.
func (r *reader) number(width int) uint64 {
	x, next, e := octet.Take(r.b, r.at, width)
	must(e)
	r.at = next
	return x
}

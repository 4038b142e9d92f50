package section

import (
	"torpor/api"
	"torpor/crc"
	"torpor/fail"
	"torpor/octet"
	"torpor/varint"
)

// reader is bytes, and how far they are read. Its methods go on from there, and end the reading where something is wrong.
type reader struct {
	b  []byte
	at int
}

// sections: all up to the end.
func (r *reader) sections() []api.Section {
	var l []api.Section
	ahead := byte(noTag)
	for r.at < len(r.b) {
		s := r.section()
		if s.Tag <= ahead {
			fail.With(api.ErrForm)
		}
		l = append(l, s)
		ahead = s.Tag
	}
	return l
}

// section: the next one.
func (r *reader) section() api.Section {
	from := r.at
	s := api.Section{Tag: r.tag()}
	s.Body = r.body()
	sum := crc.Sum(r.b[from:r.at])
	if r.number(sumWidth) != uint64(sum) {
		fail.With(api.ErrSum)
	}
	return s
}

// tag: the next one.
func (r *reader) tag() byte {
	tag := byte(r.number(tagWidth))
	if tag == noTag {
		fail.With(api.ErrForm)
	}
	return tag
}

// body: the next one, behind its length.
func (r *reader) body() []byte {
	n := r.length()
	body, next, e := octet.Cut(r.b, r.at, n)
	fail.If(e)
	r.at = next
	return body
}

// length: of a body, the next one.
func (r *reader) length() int {
	n, next, e := varint.Read(r.b, r.at)
	fail.If(e)
	if n > api.MaxBody {
		fail.With(api.ErrLong)
	}
	r.at = next
	return int(n)
}

// number: the next one, of so many bytes.
func (r *reader) number(width int) uint64 {
	x, next, e := octet.Take(r.b, r.at, width)
	fail.If(e)
	r.at = next
	return x
}

package timer

import (
	"cmp"
	"slices"

	"torpor/api"
)

// children: how many a place has at most.
const children = 4

// heap is timers, each of which but the first one has a parent that is before it.
type heap []api.Timer

// with: a timer more.
func (h heap) with(t api.Timer) heap {
	h = append(h, t)
	h.up(len(h) - 1)
	return h
}

// without: the timer at a place goes, and the last one comes there.
func (h heap) without(i int) heap {
	last := len(h) - 1
	h[i] = h[last]
	h = h[:last]
	// Where the last one itself goes nothing comes in its place.
	if i < last {
		h.down(i)
		// Since what came there may be of another branch, and before the parent here.
		h.up(i)
	}
	return h
}

// up: it is put right upwards at a place.
func (h heap) up(i int) {
	for h.isAheadOfParent(i) {
		p := parent(i)
		h[i], h[p] = h[p], h[i]
		i = p
	}
}

// down: it is put right downwards at a place.
func (h heap) down(i int) {
	for {
		c := h.first(i)
		if c == i {
			return
		}
		h[i], h[c] = h[c], h[i]
		i = c
	}
}

// first: of a place and its children, the one whose timer is before those of the others.
func (h heap) first(i int) int {
	first, child := i, children*i+1
	for c := child; c < min(child+children, len(h)); c++ {
		if isBefore(h[c], h[first]) {
			first = c
		}
	}
	return first
}

// isAheadOfParent: is the timer at a place before its parent?
func (h heap) isAheadOfParent(i int) bool {
	return i > 0 && isBefore(h[i], h[parent(i)])
}

// parent: of a place above 0.
func parent(i int) int {
	return (i - 1) / children
}

// isBefore: is a timer before another one?
func isBefore(a, b api.Timer) bool {
	return inTurn(a, b) < 0
}

// inTurn is below 0, if a timer is before another one, and 0, if neither is before the other.
func inTurn(a, b api.Timer) int {
	return cmp.Or(cmp.Compare(a.When, b.When), cmp.Compare(a.Task, b.Task))
}

// mayBe: may a timer by itself?
func mayBe(t api.Timer) bool {
	return t.When >= 0 && t.Task >= 0
}

// isOf tells of timers whether they are a task's.
func isOf(task int) func(api.Timer) bool {
	return func(t api.Timer) bool { return t.Task == task }
}

// copied: a heap of its own, so that what is done to it isn't seen in the other one.
func copied(h []api.Timer) heap {
	return slices.Clone(h)
}

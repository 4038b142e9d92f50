package treap

import (
	"slices"

	"torpor/api"
)

// none is the place of no node, the key of an empty one, and both places of an empty queue.
const none = -1

// tree is a treap that is looked at, or changed. Its methods ask for a treap that may be, unless they tell whether it may.
type tree struct {
	api.Treap
}

// copied: a tree with nodes of its own, so that what is done to it isn't seen in the other one.
func copied(t api.Treap) tree {
	t.Nodes = slices.Clone(t.Nodes)
	return tree{t}
}

// rising: the places of the nodes that aren't free, by their keys; false, unless the treap may be.
func (t tree) rising() ([]int, bool) {
	if len(t.Nodes) > api.MaxRecs || !t.mayBegin(t.Root) {
		return nil, false
	}
	free, ok := t.freeNodes()
	if !ok {
		return nil, false
	}
	// No node of the free list has a key from 0 on: so none is counted twice, where both together are all.
	places, ok := t.behind(nil, t.Root)
	if !ok || len(places)+free != len(t.Nodes) {
		return nil, false
	}
	return places, true
}

// freeNodes: how many the free list has; false, if it goes where it may not.
func (t tree) freeNodes() (int, bool) {
	n := 0
	for i := t.Free; i != none; i = t.Nodes[i].Left {
		// A list that is as long as there are nodes and still goes on goes in a circle.
		if !t.isPlace(i) || !isEmpty(t.Nodes[i]) || n == len(t.Nodes) {
			return 0, false
		}
		n++
	}
	return n, true
}

// behind: those of the tree at i behind other places, all of which have lesser keys; false, if that tree may not be there.
// It ends whatever leads where, since each node is below the one that leads to it.
func (t tree) behind(places []int, i int) ([]int, bool) {
	if i == none {
		return places, true
	}
	n := t.Nodes[i]
	if !t.mayLead(n, n.Left) || !t.mayLead(n, n.Right) {
		return nil, false
	}
	places, ok := t.behind(places, n.Left)
	if !ok || n.Key <= t.lastKey(places) {
		return nil, false
	}
	return t.behind(append(places, i), n.Right)
}

// lastKey: of the last one of these places; if there is none, the one that is less than all keys that may be.
func (t tree) lastKey(places []int) int {
	if len(places) == 0 {
		return none
	}
	return t.Nodes[places[len(places)-1]].Key
}

// mayLead: may this be what lies left, or right, of a node?
func (t tree) mayLead(n api.Node, to int) bool {
	return t.mayBegin(to) && (to == none || above(n, t.Nodes[to]))
}

// mayBegin: may a tree begin there?
func (t tree) mayBegin(i int) bool {
	return i == none || t.isPlace(i)
}

// isPlace: is there such a node?
func (t tree) isPlace(i int) bool {
	return i >= 0 && i < len(t.Nodes)
}

// find: the place of a key's node, and how many nodes are looked at.
func (t tree) find(key int) (place, looks int, ok bool) {
	for i := t.Root; i != none; i = towards(t.Nodes[i], key) {
		looks++
		if t.Nodes[i].Key == key {
			return i, looks, true
		}
	}
	return 0, looks, false
}

// place: of a key's node; an error, if the treap may not be, or the key isn't there.
func (t tree) place(key int) (int, api.Errno) {
	if !Right(t.Treap) {
		return 0, api.ErrArg
	}
	i, _, ok := t.find(key)
	if !ok {
		return 0, api.ErrNone
	}
	return i, api.OK
}

// take: the first node of the free list is of this key from now on; its place.
func (t *tree) take(key int, prio uint32) int {
	i := t.Free
	t.Free = t.Nodes[i].Left
	t.Nodes[i] = api.Node{Key: key, Prio: prio, Left: none, Right: none, Queue: noQueue()}
	return i
}

// release: a node is empty from now on, and the first one of the free list.
func (t *tree) release(i int) {
	t.Nodes[i] = empty(t.Free)
	t.Free = i
}

// with: the top of the tree at i, to which the node at a place came.
func (t *tree) with(i, place int) int {
	n := &t.Nodes[place]
	if i == none || above(*n, t.Nodes[i]) {
		n.Left, n.Right = t.split(i, n.Key)
		return place
	}
	m := &t.Nodes[i]
	if n.Key < m.Key {
		m.Left = t.with(m.Left, place)
	} else {
		m.Right = t.with(m.Right, place)
	}
	return i
}

// without: the top of the tree at i, from which the node at a place went.
func (t *tree) without(i, place int) int {
	n := &t.Nodes[i]
	switch {
	case i == place:
		return t.join(n.Left, n.Right)
	case t.Nodes[place].Key < n.Key:
		n.Left = t.without(n.Left, place)
	default:
		n.Right = t.without(n.Right, place)
	}
	return i
}

// split: the tops of what the tree at i has on either side of a key that it hasn't.
func (t *tree) split(i, key int) (left, right int) {
	if i == none {
		return none, none
	}
	n := &t.Nodes[i]
	if n.Key < key {
		n.Right, right = t.split(n.Right, key)
		return i, right
	}
	left, n.Left = t.split(n.Left, key)
	return left, i
}

// join: the top of two trees made one, where the left one's keys are all less than the right one's.
func (t *tree) join(left, right int) int {
	if left == none {
		return right
	}
	if right == none {
		return left
	}
	l, r := &t.Nodes[left], &t.Nodes[right]
	if above(*l, *r) {
		l.Right = t.join(l.Right, right)
		return left
	}
	r.Left = t.join(left, r.Left)
	return right
}

// towards: where to go on from a node on the way to another one's key.
func towards(n api.Node, key int) int {
	if key < n.Key {
		return n.Left
	}
	return n.Right
}

// above: is a node above another one?
func above(n, m api.Node) bool {
	if n.Prio != m.Prio {
		return n.Prio < m.Prio
	}
	return n.Key < m.Key
}

// isEmpty: is a node as those that are free?
func isEmpty(n api.Node) bool {
	return n == empty(n.Left)
}

// empty: a node that is free, and leads to the next one.
func empty(next int) api.Node {
	return api.Node{Key: none, Left: next, Right: none, Queue: noQueue()}
}

// noQueue: the one that holds nothing.
func noQueue() api.Queue {
	return api.Queue{Head: none, Tail: none}
}

// Package tree: items in the order of their keys, in a tree of which nothing is ever changed.
package tree

import "iter"

// Item is what a tree can hold. Its rank hangs on its key alone: so the same items make the same tree, in whatever order they came.
type Item interface {
	Key() uint64
	Rank() uint64
}

// Tree is a set of items, no two of one key; the zero one is empty.
type Tree[I Item] struct{ top *node[I] }

// node: the greater rank is above, so that no order of coming makes the tree deep.
type node[I Item] struct {
	item          I
	rank          uint64 // kept, as it may be dear to work out
	ahead, behind *node[I]
}

// With is another tree, that has this item, too; in the place of one of its key, if there is one.
func (t Tree[I]) With(item I) Tree[I] {
	return Tree[I]{t.top.with(&node[I]{item: item, rank: item.Rank()})}
}

// Get finds the item of a key.
func (t Tree[I]) Get(key uint64) (I, bool) {
	n := t.top
	for n != nil && n.item.Key() != key {
		if key < n.item.Key() {
			n = n.ahead
		} else {
			n = n.behind
		}
	}
	if n == nil {
		var none I
		return none, false
	}
	return n.item, true
}

// Range is another tree, of those items alone whose keys are from lo on and below hi.
func (t Tree[I]) Range(lo uint64, hi uint64) Tree[I] {
	_, from := t.top.cut(lo)
	in, _ := from.cut(hi)
	return Tree[I]{in}
}

// Parts are the tree's middle, which is the item of the greatest rank (of several the one with the greatest key), and what is ahead of it and behind it; not ok, if there is nothing.
func (t Tree[I]) Parts() (ahead Tree[I], middle I, behind Tree[I], ok bool) {
	if t.top == nil {
		return ahead, middle, behind, false
	}
	return Tree[I]{t.top.ahead}, t.top.item, Tree[I]{t.top.behind}, true
}

// Len: how many items there are.
func (t Tree[I]) Len() int { return t.top.count() }

// All goes through the items by their keys.
func (t Tree[I]) All() iter.Seq[I] {
	return func(yield func(I) bool) { t.top.each(yield) }
}

func (n *node[I]) count() int {
	if n == nil {
		return 0
	}
	return n.ahead.count() + 1 + n.behind.count()
}

func (n *node[I]) each(yield func(I) bool) bool {
	return n == nil || n.ahead.each(yield) && yield(n.item) && n.behind.each(yield)
}

// over makes this node anew, above others: who has the old one may go on with it.
func (n *node[I]) over(ahead, behind *node[I]) *node[I] {
	return &node[I]{item: n.item, rank: n.rank, ahead: ahead, behind: behind}
}

func (n *node[I]) isAbove(m *node[I]) bool {
	if n.rank != m.rank {
		return n.rank > m.rank
	}
	return n.item.Key() > m.item.Key()
}

func (n *node[I]) with(fresh *node[I]) *node[I] {
	if n == nil || fresh.isAbove(n) {
		return fresh.over(n.cut(fresh.item.Key()))
	}
	switch key := fresh.item.Key(); {
	case key < n.item.Key():
		return n.over(n.ahead.with(fresh), n.behind)
	case key > n.item.Key():
		return n.over(n.ahead, n.behind.with(fresh))
	}
	return fresh.over(n.ahead, n.behind)
}

// cut parts what is below a key from what is not.
func (n *node[I]) cut(key uint64) (*node[I], *node[I]) {
	if n == nil {
		return nil, nil
	}
	if n.item.Key() < key {
		below, rest := n.behind.cut(key)
		return n.over(n.ahead, below), rest
	}
	below, rest := n.ahead.cut(key)
	return below, n.over(rest, n.behind)
}

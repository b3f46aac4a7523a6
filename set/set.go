// Package set: a set of operations, by their keys.
package set

import (
	"skein/api"
	"skein/rule"
	"skein/sha"
	"skein/tree"
)

const rankSize = 8

// Set is a set of operations; the zero one is empty, and none is ever changed.
type Set struct{ tree tree.Tree[entry] }

type entry struct{ op api.Op }

func (e entry) Key() uint64 { return rule.KeyOf(e.op) }

func (e entry) Rank() uint64 {
	var b [rankSize]byte
	for i, k := rankSize-1, e.Key(); i >= 0; i-- {
		b[i] = byte(k)
		k >>= 8
	}
	sum := sha.Sum(b[:])
	rank := uint64(0)
	for _, x := range sum[:rankSize] {
		rank = rank<<8 | uint64(x)
	}
	return rank
}

// With is another set, that has this operation, too.
func (s Set) With(o api.Op) Set { return Set{s.tree.With(entry{o})} }

// Get finds the operation of a key.
func (s Set) Get(key uint64) (api.Op, bool) {
	e, ok := s.tree.Get(key)
	return e.op, ok
}

// Range is another set, of those operations alone whose keys are from lo on and below hi.
func (s Set) Range(lo uint64, hi uint64) Set { return Set{s.tree.Range(lo, hi)} }

// Parts are the middle, and what is ahead of it and behind it; not ok, if there is no operation.
func (s Set) Parts() (ahead Set, middle api.Op, behind Set, ok bool) {
	a, m, b, ok := s.tree.Parts()
	return Set{a}, m.op, Set{b}, ok
}

// Len: how many operations there are.
func (s Set) Len() int { return s.tree.Len() }

// Ops: all of them, by their keys.
func (s Set) Ops() []api.Op {
	var ops []api.Op
	for e := range s.tree.All() {
		ops = append(ops, e.op)
	}
	return ops
}

// Package text: the text that operations make.
package text

import (
	"cmp"
	"slices"
	"strings"

	"skein/api"
	"skein/rule"
)

// String is the text of these operations.
func String(ops []api.Op) string {
	var b strings.Builder
	for _, o := range Told(ops) {
		b.WriteRune(o.Char)
	}
	return b.String()
}

// Told are the Inserts whose characters are in the text, in its order.
func Told(ops []api.Op) []api.Op {
	t := &teller{}
	for _, o := range ops {
		if o.Kind == api.Insert {
			t.inserts = append(t.inserts, o)
		} else {
			t.gone = append(t.gone, o.Ref)
		}
	}
	slices.SortFunc(t.inserts, byPlace)
	slices.Sort(t.gone)
	t.tell(0)
	return t.told
}

type teller struct {
	inserts []api.Op // those that hang on one thing stand together, in their order
	gone    []uint64
	told    []api.Op
}

func byPlace(a, b api.Op) int {
	return cmp.Or(
		cmp.Compare(a.Ref, b.Ref),
		cmp.Compare(b.Stamp, a.Stamp),
		cmp.Compare(rule.KeyOf(b), rule.KeyOf(a)),
	)
}

func (t *teller) tell(ref uint64) {
	for _, o := range t.hanging(ref) {
		k := rule.KeyOf(o)
		if _, ok := slices.BinarySearch(t.gone, k); !ok {
			t.told = append(t.told, o)
		}
		t.tell(k) // even if it is gone: what hangs on it is not
	}
}

func (t *teller) hanging(ref uint64) []api.Op {
	return t.inserts[t.first(ref):t.first(ref+1)]
}

func (t *teller) first(ref uint64) int {
	i, _ := slices.BinarySearchFunc(t.inserts, ref, func(o api.Op, ref uint64) int {
		return cmp.Compare(o.Ref, ref)
	})
	return i
}

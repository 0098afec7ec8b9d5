package store

import (
	"slices"
	"strings"

	"dumbwaiter/api"
)

// The weights of two neighbouring trees differ at most by wide, and a tree that is lifted is at most narrow times as heavy as the other one.
const (
	wide   = 3
	narrow = 2
)

// node is a balanced tree of rows, ordered by keys. It is never changed, so that what a transaction sees stays as it is: a changed tree shares all other nodes with the one that it came from.
type node struct {
	key         string
	row         []api.Value
	size        int
	left, right *node
}

// count returns the number of rows of a tree.
func (n *node) count() int {
	if n == nil {
		return 0
	}
	return n.size
}

// joined returns the tree of two trees and a row between them.
func joined(left *node, key string, row []api.Value, right *node) *node {
	return &node{key, row, left.count() + right.count() + 1, left, right}
}

// balanced is joined for trees that were balanced before one of them gained or lost a row.
func balanced(left *node, key string, row []api.Value, right *node) *node {
	switch {
	case left.count()+right.count() < 2:
		return joined(left, key, row, right)
	case right.count() > wide*left.count():
		return leftward(left, key, row, right)
	case left.count() > wide*right.count():
		return rightward(left, key, row, right)
	}
	return joined(left, key, row, right)
}

// leftward is joined for a tree on the right that is too heavy.
func leftward(left *node, key string, row []api.Value, right *node) *node {
	if inner := right.left; inner.count() >= narrow*right.right.count() {
		return joined(joined(left, key, row, inner.left), inner.key, inner.row, joined(inner.right, right.key, right.row, right.right))
	}
	return joined(joined(left, key, row, right.left), right.key, right.row, right.right)
}

// rightward is joined for a tree on the left that is too heavy.
func rightward(left *node, key string, row []api.Value, right *node) *node {
	if inner := left.right; inner.count() >= narrow*left.left.count() {
		return joined(joined(left.left, left.key, left.row, inner.left), inner.key, inner.row, joined(inner.right, key, row, right))
	}
	return joined(left.left, left.key, left.row, joined(left.right, key, row, right))
}

// with returns the tree with a row, instead of the one that has its key.
func (n *node) with(key string, row []api.Value) *node {
	switch {
	case n == nil:
		return joined(nil, key, row, nil)
	case key < n.key:
		return balanced(n.left.with(key, row), n.key, n.row, n.right)
	case key > n.key:
		return balanced(n.left, n.key, n.row, n.right.with(key, row))
	}
	return joined(n.left, key, row, n.right)
}

// without returns the tree without the row that has a key.
func (n *node) without(key string) *node {
	switch {
	case n == nil:
		return nil
	case key < n.key:
		return balanced(n.left.without(key), n.key, n.row, n.right)
	case key > n.key:
		return balanced(n.left, n.key, n.row, n.right.without(key))
	case n.right == nil:
		return n.left
	}
	next := n.right
	for next.left != nil {
		next = next.left
	}
	return balanced(n.left, next.key, next.row, n.right.without(next.key))
}

// get returns the row that has a key, nil if there is none. (A row has values: those of its key.)
func (n *node) get(key string) []api.Value {
	for n != nil {
		switch {
		case key < n.key:
			n = n.left
		case key > n.key:
			n = n.right
		default:
			return n.row
		}
	}
	return nil
}

// under calls visit for the rows whose keys begin with some bytes, in order, as long as it returns true, and reports whether it always did.
func (n *node) under(prefix string, visit func(key string, row []api.Value) bool) bool {
	switch {
	case n == nil:
		return true
	case strings.HasPrefix(n.key, prefix):
		return n.left.under(prefix, visit) && visit(n.key, n.row) && n.right.under(prefix, visit)
	case n.key < prefix:
		return n.right.under(prefix, visit)
	}
	return n.left.under(prefix, visit)
}

// has reports whether there is a row whose key begins with some bytes.
func (n *node) has(prefix string) bool {
	return !n.under(prefix, func(string, []api.Value) bool { return false })
}

// sorted sorts rows by their keys.
func sorted(l []*node) []*node {
	slices.SortFunc(l, func(a, b *node) int { return strings.Compare(a.key, b.key) })
	return l
}

// planted returns the tree of rows in order.
func planted(l []*node) *node {
	if len(l) == 0 {
		return nil
	}
	middle := len(l) / 2
	return joined(planted(l[:middle]), l[middle].key, l[middle].row, planted(l[middle+1:]))
}

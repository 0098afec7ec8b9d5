package store

import (
	"math/rand"
	"slices"
	"strconv"
	"strings"
	"testing"

	"dumbwaiter/api"
)

// isBalanced reports whether no part of a tree is much heavier than its neighbour, and counts are right.
func isBalanced(n *node) bool {
	if n == nil {
		return true
	}
	a, b := n.left.count(), n.right.count()
	return isBalanced(n.left) && isBalanced(n.right) && n.size == a+b+1 && (a+b < 2 || a <= wide*b && b <= wide*a)
}

// keysUnder returns the keys that begin with some bytes.
func keysUnder(n *node, prefix string) []string {
	var l []string
	n.under(prefix, func(key string, row []api.Value) bool {
		l = append(l, key)
		return true
	})
	return l
}

// P3.8, P3.11: trees find what is there, in order; what was seen before stays as it was; and they do not become deep.
func TestTree(t *testing.T) {
	for seed := range 20 {
		r := rand.New(rand.NewSource(int64(seed)))
		var tree, before *node
		var keys, keysBefore []string
		for i := range 3000 {
			key := strconv.Itoa(r.Intn(400))
			if seed%4 == 3 {
				key = strconv.Itoa(10000 + i)
			}
			at, there := slices.BinarySearch(keys, key)
			if i%1500 < 900 {
				tree = tree.with(key, []api.Value{{N: i}})
				if !there {
					keys = slices.Insert(keys, at, key)
				}
				if row := tree.get(key); row[0].N != i {
					t.Fatal("get", key)
				}
			} else {
				if seed%2 == 1 && len(keys) > 0 {
					at, there, key = 0, true, keys[0]
				}
				tree = tree.without(key)
				if there {
					keys = slices.Delete(keys, at, at+1)
				}
				if tree.get(key) != nil || tree.count() > 0 && tree.has(key+"x") {
					t.Fatal("not gone", key)
				}
			}
			if i == 1000 {
				before, keysBefore = tree, slices.Clone(keys)
			}
			if i%50 == 0 && (!isBalanced(tree) || !slices.Equal(keysUnder(tree, ""), keys)) {
				t.Fatal(seed, i)
			}
		}
		if !slices.Equal(keysUnder(before, ""), keysBefore) || !isBalanced(before) {
			t.Error("a tree of before has changed")
		}
		for _, prefix := range []string{"1", "12", "399", "4", "x", "100"} {
			want := slices.DeleteFunc(slices.Clone(keysBefore), func(key string) bool { return !strings.HasPrefix(key, prefix) })
			if got := keysUnder(before, prefix); !slices.Equal(got, want) || before.has(prefix) != (len(want) > 0) {
				t.Error(prefix, got, want)
			}
		}
	}
}

// A tree that is made at once is balanced.
func TestPlanted(t *testing.T) {
	for n := range 200 {
		var l []*node
		for i := range n {
			l = append(l, joined(nil, strconv.Itoa(1000+(i*7)%200), nil, nil))
		}
		if tree := planted(sorted(l)); !isBalanced(tree) || tree.count() != n || !slices.IsSorted(keysUnder(tree, "")) {
			t.Error(n)
		}
	}
}

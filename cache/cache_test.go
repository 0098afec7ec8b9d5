package cache_test

import (
	"math/rand"
	"slices"
	"strconv"
	"testing"

	"dumbwaiter/api"
	"dumbwaiter/cache"
)

// refOf names an object.
func refOf(o api.Object) api.Ref { return api.Ref{Entity: o.Entity, Tenant: o.Tenant, ID: o.ID} }

// has checks which objects and lists a cache has. (That is a use of each, in this order.)
func has(t *testing.T, c *cache.Cache, want ...any) {
	t.Helper()
	expect(t, c.Len(), len(want))
	for _, x := range want {
		switch x := x.(type) {
		case api.Object:
			o, there := c.Object(refOf(x))
			if !there || !same(o, x) {
				t.Error(o, there, "want", x)
			}
		case string:
			if _, there := c.List(x); !there {
				t.Error("no list", x)
			}
		}
	}
}

// P8.4: what a new cache is, and its errors.
func TestNewCache(t *testing.T) {
	for _, x := range []struct {
		size, heard int
		want        api.Errno
	}{
		{1, 0, api.OK}, {api.MaxCached, api.MaxInt, api.OK}, {0, 0, api.ErrArg}, {-1, 0, api.ErrArg}, {api.MaxCached + 1, 0, api.ErrArg}, {1, -1, api.ErrArg}, {1, api.MaxInt + 1, api.ErrArg},
	} {
		c, err := cache.NewCache(x.size, x.heard)
		want(t, err, x.want)
		if (c == nil) != (err != api.OK) {
			t.Error(c, err)
		}
		if c != nil && (c.Heard() != x.heard || c.Floor() != x.heard || c.Len() != 0) {
			t.Error(x, c.Heard(), c.Floor(), c.Len())
		}
	}
}

// P8.5: what is kept, replaced, and goes.
func TestKeep(t *testing.T) {
	a, b, d := note(1, 1, 0, "a"), note(1, 2, 0, "b"), note(2, 1, 0, "d")
	a2 := note(1, 1, 0, "a2")
	keep := func(c *cache.Cache, o api.Object, at int, want bool) {
		t.Helper()
		expect(t, c.Keep(o, at), want)
	}
	c := newCache(t, 3, 4)
	keep(c, a, 3, false)
	keep(c, a, -1, false)
	has(t, c)
	keep(c, a, 4, true)
	keep(c, b, 9, true)
	has(t, c, a, b)
	// Of the same age, or younger, it is replaced; older it is not.
	keep(c, a2, 4, true)
	has(t, c, a2, b)
	keep(c, a, 6, true)
	keep(c, a2, 5, false)
	has(t, c, b, a)
	// A list is another entry, with any label.
	expect(t, c.KeepList("", []api.Object{a, d}, nil, 3), false)
	expect(t, c.KeepList("", []api.Object{a, d}, nil, 7), true)
	expect(t, c.KeepList("", []api.Object{b}, nil, 6), false)
	expect(t, c.KeepList("", []api.Object{d}, nil, 7), true)
	l, there := c.List("")
	if !there || !same(l, []api.Object{d}) {
		t.Error(l, there)
	}
	// What was used longest ago goes: b, as it was found ahead of a.
	keep(c, d, 4, true)
	has(t, c, d, a, "")
	// Looking for what is not there is no use, and Keep without effect neither.
	if _, there := c.Object(refOf(b)); there {
		t.Error("b")
	}
	if _, there := c.List("b"); there {
		t.Error("list b")
	}
	keep(c, d, 3, false)
	expect(t, c.KeepList("b", nil, nil, 4), true)
	has(t, c, a, "b", "")
	l, there = c.List("b")
	if len(l) > 0 || !there {
		t.Error(l, there)
	}
	// The last one kept stays, however small the cache is.
	c = newCache(t, 1, 0)
	keep(c, a, 9, true)
	keep(c, b, 0, true)
	has(t, c, b)
	expect(t, c.KeepList("x", nil, nil, 0), true)
	has(t, c, "x")
}

// P8.5: objects are told apart by entity, tenant and id.
func TestNames(t *testing.T) {
	c := newCache(t, 9, 0)
	var l []any
	for _, o := range []api.Object{note(1, 1, 0, "a"), note(2, 1, 0, "b"), note(1, 2, 0, "c"), book(1, 1, 0, "d"), {}} {
		expect(t, c.Keep(o, 0), true)
		l = append(l, o)
	}
	has(t, c, l...)
	expect(t, c.KeepList("", nil, nil, 0), true)
	has(t, c, append(l, "")...)
}

// P8.6: what notices forget.
func TestHear(t *testing.T) {
	a, b, d := note(1, 1, 0, "a"), note(1, 2, 0, "b"), note(2, 1, 0, "d")
	notes := func(tenant int) []api.Tag { return []api.Tag{{Entity: "note", Tenant: tenant}} }
	filled := func() *cache.Cache {
		c := newCache(t, 9, 4)
		expect(t, []bool{c.Keep(a, 4), c.Keep(b, 6), c.Keep(d, 4)}, []bool{true, true, true})
		expect(t, []bool{c.KeepList("1", []api.Object{a}, notes(1), 4), c.KeepList("2", []api.Object{d}, notes(2), 4), c.KeepList("0", nil, notes(0), 5), c.KeepList("none", nil, nil, 4)}, []bool{true, true, true, true})
		return c
	}
	change := api.Note{Number: 5, Refs: []api.Ref{refOf(a), refOf(b), {Entity: "note", Tenant: 3, ID: 1}}, Tags: notes(1)}
	// Hear: a and the list 1 are older, b and the list 0 are not.
	c := filled()
	want(t, c.Hear(change), api.OK)
	expect(t, []int{c.Heard(), c.Floor()}, []int{5, 5})
	has(t, c, b, d, "2", "0", "none")
	// The same number again, or another one, is not the next one.
	for _, n := range []int{5, 4, 7, 0, -1, 1<<63 - 1, -1 << 63} {
		change.Number = n
		want(t, c.Hear(change), api.ErrOrder)
	}
	has(t, c, b, d, "2", "0", "none")
	expect(t, []int{c.Heard(), c.Floor()}, []int{5, 5})
	// Of what concerns others, too, it is known that it was heard.
	want(t, c.Hear(api.Note{Number: 6}), api.OK)
	has(t, c, b, d, "2", "0", "none")
	expect(t, []bool{c.Keep(a, 5), c.Keep(a, 6)}, []bool{false, true})
	// Own comes ahead of others.
	c = filled()
	change.Number = 7
	c.Own(change)
	expect(t, []int{c.Heard(), c.Floor()}, []int{4, 7})
	has(t, c, d, "2", "none")
	expect(t, []bool{c.Keep(a, 6), c.Keep(a, 7), c.KeepList("1", nil, notes(1), 6), c.KeepList("1", nil, notes(1), 8)}, []bool{false, true, false, true})
	// An earlier one is still told, but Floor stays.
	c.Own(api.Note{Number: 6, Refs: []api.Ref{refOf(d), refOf(a)}, Tags: notes(1)})
	expect(t, []int{c.Heard(), c.Floor()}, []int{4, 7})
	has(t, c, a, "1", "2", "none")
	for n := 5; n <= 8; n++ {
		want(t, c.Hear(api.Note{Number: n}), api.OK)
	}
	expect(t, []int{c.Heard(), c.Floor()}, []int{8, 8})
	has(t, c, a, "1", "2", "none")
	// What was heard already is no news.
	for _, n := range []int{8, 7, 0, -5} {
		c.Own(api.Note{Number: n, Refs: change.Refs, Tags: []api.Tag{{Entity: "note"}}})
	}
	has(t, c, a, "1", "2", "none")
	expect(t, []int{c.Heard(), c.Floor()}, []int{8, 8})
	// A notice without a tenant touches lists of all tenants, and one of any tenant a list of all.
	for tenant, want := range map[int][]any{0: {a, b, d, "none"}, 1: {a, b, d, "2", "none"}, 3: {a, b, d, "1", "2", "none"}} {
		c = filled()
		c.Own(api.Note{Number: 6, Tags: notes(tenant)})
		has(t, c, want...)
	}
}

// The example of the chapter.
func TestExample(t *testing.T) {
	c := newCache(t, 5, 4)
	old, now := book(1, 1, 0, "Ann"), book(1, 2, 0, "Anna")
	expect(t, c.Keep(old, 4), true)
	n, err := cache.Noted(library(t), api.World{Objects: []api.Object{old}}, api.World{Objects: []api.Object{now}}, 5)
	must(t, err)
	has(t, c, old)
	must(t, c.Hear(n))
	has(t, c)
	expect(t, []bool{c.Keep(old, 4), c.Keep(now, 5)}, []bool{false, true})
	has(t, c, now)
}

// Z2: a cache shares no memory with what it is given, and gives.
func TestMemoryOfCaches(t *testing.T) {
	c := newCache(t, 5, 0)
	o, l, tags := shelf().Objects[2], shelf().Objects[2:], []api.Tag{{Entity: "note"}}
	c.Keep(o, 0)
	c.KeepList("x", l, tags, 0)
	wipe(&o)
	wipe(&l)
	wipe(&tags)
	for range 2 {
		got, _ := c.Object(refOf(shelf().Objects[2]))
		again, _ := c.Object(refOf(shelf().Objects[2]))
		list, _ := c.List("x")
		more, _ := c.List("x")
		wipe(&got)
		wipe(&list)
		expect(t, again, shelf().Objects[2])
		expect(t, more, shelf().Objects[2:])
	}
	n := api.Note{Number: 1, Refs: []api.Ref{refOf(shelf().Objects[2])}, Tags: []api.Tag{{Entity: "note", Tenant: 4}}}
	before := clone(n)
	c.Own(n)
	expect(t, n, before)
	expect(t, c.Len(), 0)
}

// plainCache is a cache as P8.4 to P8.6 say it: a list of entries, of which the last one was used last.
type plainCache struct {
	size, heard, floor int
	l                  []plainEntry
}

type plainEntry struct {
	name string // of an object the text of its Ref, of a list its label
	refs []api.Ref
	tags []api.Tag
	now  []api.Object
	at   int
}

func nameOf(r api.Ref) string {
	return r.Entity + " " + strconv.Itoa(r.Tenant) + " " + strconv.Itoa(r.ID)
}

func (c *plainCache) keep(x plainEntry) bool {
	i := slices.IndexFunc(c.l, func(y plainEntry) bool { return y.name == x.name })
	if x.at < c.floor || i >= 0 && c.l[i].at > x.at {
		return false
	}
	if i >= 0 {
		c.l = slices.Delete(c.l, i, i+1)
	}
	c.l = append(c.l, x)
	c.l = c.l[max(0, len(c.l)-c.size):]
	return true
}

func (c *plainCache) find(name string) ([]api.Object, bool) {
	i := slices.IndexFunc(c.l, func(y plainEntry) bool { return y.name == name })
	if i < 0 {
		return nil, false
	}
	x := c.l[i]
	c.l = append(slices.Delete(c.l, i, i+1), x)
	return x.now, true
}

func (c *plainCache) forget(n api.Note) {
	c.l = slices.DeleteFunc(c.l, func(x plainEntry) bool {
		isTold := cache.Touches(n, x.tags)
		for _, r := range x.refs {
			isTold = isTold || slices.Contains(n.Refs, r)
		}
		return isTold && x.at < n.Number
	})
	c.floor = max(c.floor, n.Number)
}

// history is what some notes of two tenants have been behind each commit, and what each commit has changed.
type history struct {
	*rand.Rand
	worlds [][]api.Object
	notes  []api.Note
}

// commit adds a commit.
func (h *history) commit() {
	w := clone(h.worlds[len(h.worlds)-1])
	n := api.Note{Number: len(h.worlds)}
	for range h.Intn(3) {
		o := &w[h.Intn(len(w))]
		o.Values[0] = integer(n.Number)
		n.Refs = append(n.Refs, refOf(*o))
		n.Tags = append(n.Tags, api.Tag{Entity: "note", Tenant: o.Tenant})
	}
	h.worlds, h.notes = append(h.worlds, w), append(h.notes, n)
}

// list is the list of a tenant behind a commit.
func (h *history) list(tenant, at int) []api.Object {
	return slices.DeleteFunc(slices.Clone(h.worlds[at]), func(o api.Object) bool { return tenant != 0 && o.Tenant != tenant })
}

// P8.4 to P8.7: a cache is the plain one, and what it gives was stored at some number that is at least Heard, and at least that of each own notice that touches it.
func TestCacheAtRandom(t *testing.T) {
	given := 0
	for seed := range 300 {
		h := &history{Rand: rand.New(rand.NewSource(int64(seed)))}
		var first []api.Object
		for i := range 6 {
			first = append(first, api.Object{Entity: "note", Tenant: 1 + i%2, ID: 1 + i/2, Values: row(null)})
		}
		h.worlds, h.notes = [][]api.Object{first}, []api.Note{{}}
		size := 1 + h.Intn(8)
		c, p := newCache(t, size, 0), &plainCache{size: size}
		var own []api.Note
		// try checks what is given under a name, where stored says what was there behind a commit, and touches whether a notice touches it.
		try := func(got []api.Object, there bool, name string, stored func(at int) []api.Object, touches func(n api.Note) bool) {
			t.Helper()
			wanted, isThere := p.find(name)
			if there != isThere || !same(got, wanted) {
				t.Fatal(seed, name, got, there, wanted, isThere)
			}
			if !there {
				return
			}
			given++
			least := p.heard
			for _, n := range own {
				if touches(n) {
					least = max(least, n.Number)
				}
			}
			for at := least; at < len(h.worlds); at++ {
				if same(stored(at), got) {
					return
				}
			}
			t.Fatal(seed, name, got, "is older than", least)
		}
		for range 200 {
			at := len(h.worlds) - 1 - min(h.Intn(4), h.Intn(len(h.worlds)))
			o := h.worlds[at][h.Intn(6)]
			tenant := h.Intn(3)
			tags, label := []api.Tag{{Entity: "note", Tenant: tenant}}, strconv.Itoa(tenant)
			switch h.Intn(8) {
			case 0:
				h.commit()
				if n := h.notes[len(h.notes)-1]; h.Intn(3) == 0 {
					c.Own(n)
					p.forget(n)
					own = append(own, n)
				}
			case 1:
				if p.heard < len(h.notes)-1 {
					p.heard++
					must(t, c.Hear(h.notes[p.heard]))
					p.forget(h.notes[p.heard])
				}
			case 2, 3:
				expect(t, c.Keep(o, at), p.keep(plainEntry{nameOf(refOf(o)), []api.Ref{refOf(o)}, nil, []api.Object{o}, at}))
			case 4:
				expect(t, c.KeepList(label, h.list(tenant, at), tags, at), p.keep(plainEntry{label, nil, tags, h.list(tenant, at), at}))
			case 5, 6:
				got, there := c.Object(refOf(o))
				var l []api.Object
				if there {
					l = append(l, got)
				}
				i := slices.IndexFunc(first, func(x api.Object) bool { return refOf(x) == refOf(o) })
				try(l, there, nameOf(refOf(o)), func(at int) []api.Object { return h.worlds[at][i : i+1] }, func(n api.Note) bool { return slices.Contains(n.Refs, refOf(o)) })
			case 7:
				l, there := c.List(label)
				try(l, there, label, func(at int) []api.Object { return h.list(tenant, at) }, func(n api.Note) bool { return cache.Touches(n, tags) })
			}
			expect(t, []int{c.Len(), c.Heard(), c.Floor()}, []int{len(p.l), p.heard, p.floor})
		}
		if t.Failed() {
			t.Fatal(seed)
		}
	}
	if given < 1000 {
		t.Error("too little was found", given)
	}
}

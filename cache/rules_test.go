package cache_test

import (
	"reflect"
	"sync"
	"testing"

	"dumbwaiter/api"
	"dumbwaiter/cache"
)

// given is arguments for all functions.
type given struct {
	M             api.Model
	Before, After api.World
	F             api.Find
	Params        []api.Value
	St            api.Statement
	Note          api.Note
	Tags          []api.Tag
	Token         api.Token
	Tenants       []int
	Acts          []api.Act
	O             api.Object
	L             []api.Object
	Ref           api.Ref
	Entity, Label string
	Secret        string
	Number, Until int
	Tenant, Now   int
	Size, Heard   int
	At, ID        int
}

// given makes arguments, which are right.
func (r *maker) given(t *testing.T) given {
	t.Helper()
	w := r.world()
	v := r.next(w, 0, 4)
	f, params := r.find(t)
	f.Gone, f.Tenant = false, 0
	n, err := cache.Noted(r.m, w, v, 2)
	must(t, err)
	tags, err := cache.Tags(r.m, f)
	must(t, err)
	k, err := cache.Issue("s", []int{1, 2}, 50)
	must(t, err)
	return clone(given{
		M: r.m, Before: w, After: v, F: f, Params: params, St: r.statement(t), Note: n, Tags: tags, Token: k, Tenants: []int{2, 1}, Acts: r.acts(w, 1, 4),
		O: v.Objects[0], L: v.Objects, Ref: refOf(v.Objects[0]), Entity: "note", Label: "x", Secret: "s", Number: 2, Until: 50, Tenant: 1, Now: 5, Size: 3, Heard: 1, At: 1, ID: 1,
	})
}

// outcome is the results of a call, by the name of the function.
type outcome struct {
	name    string
	results []any
}

// callAll calls all functions, readers over a store of the maker.
func (r *maker) callAll(t *testing.T, g given, w api.World) []outcome {
	var l []outcome
	add := func(name string, results ...any) { l = append(l, outcome{name, results}) }
	n, err := cache.Noted(g.M, g.Before, g.After, g.Number)
	add("Noted", n, err)
	tags, err := cache.Tags(g.M, g.F)
	add("Tags", tags, err)
	add("Touches", cache.Touches(g.Note, g.Tags))
	s, err := cache.Label(g.M, g.F, g.Params)
	add("Label", s, err)
	k, err := cache.Issue(g.Secret, g.Tenants, g.Until)
	add("Issue", k, err)
	add("CheckToken", cache.CheckToken(g.Secret, g.Token, g.Tenant, g.Now))
	st, err := cache.Scope(g.M, g.St, g.Tenant)
	add("Scope", st, err)
	p, err := cache.Part(g.M, g.Before, g.Tenant)
	add("Part", p, err)
	tenants, err := cache.Tenants(g.M, g.Before)
	add("Tenants", tenants, err)
	c, err := cache.NewCache(g.Size, g.Heard)
	if (c == nil) != (err != api.OK) {
		t.Error("NewCache", err)
	}
	if err != api.OK {
		c = newCache(t, 3, 0)
	}
	add("Keep", c.Keep(g.O, g.At), c.KeepList(g.Label, g.L, g.Tags, g.At), c.Len())
	add("Hear", c.Hear(g.Note))
	c.Own(g.Note)
	o, there := c.Object(g.Ref)
	list, isThere := c.List(g.Label)
	add("Object", o, there, list, isThere, c.Floor(), c.Heard())
	x, err := cache.NewReader(g.M, storeOf(t, r.m, w), c, g.Tenant, g.Now)
	if (x == nil) != (err != api.OK) {
		t.Error("NewReader", err)
	}
	if x == nil {
		x, _ = cache.NewReader(r.m, storeOf(t, r.m, w), c, 1, 0)
	}
	for _, strict := range []bool{false, true} {
		o, err := x.Get(g.Entity, g.ID, strict)
		add("Get", o, err)
		list, err := x.Find(g.F, g.Params, strict)
		add("Find", list, err)
	}
	outcomes, notes := x.Work(g.Acts)
	add("Work", outcomes, notes, x.Queries())
	return l
}

// spoil makes a change without any rule.
func (r *maker) spoil(v reflect.Value) {
	switch v.Kind() {
	case reflect.Int:
		v.SetInt(int64(pick(r, 0, 1, -1, 2, 3, 7, 10, 27, api.MaxInt, api.MaxInt+1, 1<<63-1, -1<<63)))
	case reflect.Uint64:
		v.SetUint(uint64(r.Int63()))
	case reflect.String:
		v.SetString(pick(r, "", "a", "book", "note", "tenant", "likes", "id", "name", "next.name", ".", "é", "\n", long(39), long(41), long(101)))
	case reflect.Bool:
		v.SetBool(!v.Bool())
	case reflect.Struct:
		r.spoil(v.Field(r.Intn(v.NumField())))
	case reflect.Slice:
		switch n := r.Intn(8); {
		case n == 0:
			v.Set(reflect.Append(v.Slice3(0, v.Len(), v.Len()), reflect.Zero(v.Type().Elem())))
		case n == 1 && v.Len() > 0:
			v.Set(v.Slice(0, v.Len()-1))
		case n == 2 && v.Len() > 0:
			v.Set(reflect.Append(v.Slice3(0, v.Len(), v.Len()), cloneValue(v.Index(r.Intn(v.Len())))))
		case v.Len() > 0:
			r.spoil(v.Index(r.Intn(v.Len())))
		}
	}
}

// Z1, Z2, Z3, Z10: no function panics for strange arguments, none changes its arguments, with an error all other results are zero, and the same arguments give the same results.
func TestStrangeArguments(t *testing.T) {
	errors := map[api.Errno]int{}
	randomly(t, 12, func(t *testing.T, r *maker) {
		base := r.given(t)
		w := clone(base.Before)
		for range 25 {
			g := clone(base)
			for range 1 + r.Intn(2) {
				r.spoil(reflect.ValueOf(&g).Elem())
			}
			before := clone(g)
			got := r.callAll(t, g, w)
			expect(t, g, before)
			for i, x := range r.callAll(t, g, w) {
				err, _ := x.results[len(x.results)-1].(api.Errno)
				errors[err]++
				for k, y := range x.results {
					if !same(y, got[i].results[k]) {
						t.Error(x, got[i])
					}
					if err != api.OK && k < len(x.results)-1 && !same(y, reflect.Zero(reflect.TypeOf(y)).Interface()) {
						t.Error(x)
					}
				}
			}
		}
	})
	if len(errors) < 10 && !testing.Short() {
		t.Error("too few errors", errors)
	}
}

// Z2: results share no memory with arguments, nor with one another.
func TestMemory(t *testing.T) {
	randomly(t, 10, func(t *testing.T, r *maker) {
		g := r.given(t)
		w := clone(g.Before)
		got := r.callAll(t, g, w)
		wanted := r.callAll(t, clone(g), w)
		wipe(&g)
		for i, x := range got {
			for k := range x.results {
				if !same(x.results[k], wanted[i].results[k]) {
					t.Error("an argument is kept by", x.name, k)
				}
				y := reflect.New(reflect.TypeOf(x.results[k]))
				y.Elem().Set(reflect.ValueOf(x.results[k]))
				wipeValue(y.Elem())
			}
		}
	})
}

// Z10: functions can be called by several goroutines at once, and objects of their own, too.
func TestAtTheSameTime(t *testing.T) {
	randomly(t, 3, func(t *testing.T, r *maker) {
		g := r.given(t)
		w := clone(g.Before)
		wanted := r.callAll(t, g, w)
		var group sync.WaitGroup
		for range 8 {
			group.Go(func() {
				for i, x := range r.callAll(t, g, w) {
					for k := range x.results {
						if !same(x.results[k], wanted[i].results[k]) {
							t.Error(x.name)
						}
					}
				}
			})
		}
		group.Wait()
	})
}

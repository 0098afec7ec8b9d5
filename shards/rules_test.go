package shards_test

import (
	"reflect"
	"slices"
	"strings"
	"sync"
	"testing"

	"dumbwaiter/api"
	"dumbwaiter/schema"
	"dumbwaiter/shards"
)

// given is arguments for all functions.
type given struct {
	M            api.Model
	Shards       int
	Secret       string
	Tenant       int
	Shard        int
	Token        api.Token
	Now          int
	Acts         []api.Act
	Common       []api.Act
	F            api.Find
	Q            api.Total
	Params       []api.Value
	To           int
	Loads, Homes []int
	L            []api.Fixture
	Text         string
	W            api.World
	Seed, Many   int
	Script       string
}

// given makes arguments, which are right.
func (r *maker) given(t *testing.T) given {
	t.Helper()
	f, params := r.find(t)
	f.Tenant = 1
	w := r.world()
	text, err := schema.Text(r.m)
	must(t, err)
	var commands []string
	for range 30 {
		commands = append(commands, r.command())
	}
	return clone(given{
		M: r.m, Shards: 3, Secret: "s", Tenant: 1, Shard: 0, Token: key(t), Now: 5, Acts: r.acts(api.World{}, 1, 12), Common: r.shared(api.World{}, 6),
		F: f, Q: api.Total{Entity: f.Entity, Where: f.Where, Group: []string{"id"}, Aggs: []api.Agg{{Op: api.AggRows}}, Tenant: 1}, Params: params, To: 1,
		Loads: []int{5, 3, 1, 1}, Homes: []int{0, 0, 1, 0}, L: []api.Fixture{r.fixture([]string{"a"}), r.fixture([]string{"b"})}, Text: fixtureLines(), W: w, Seed: 3, Many: 2,
		Script: text + "end\n" + lines(commands...),
	})
}

// outcome is the results of a call, by the name of the function.
type outcome struct {
	name    string
	results []any
}

// callAll calls all functions.
func (r *maker) callAll(t *testing.T, g given) []outcome {
	var l []outcome
	add := func(name string, results ...any) { l = append(l, outcome{name, results}) }
	places, err := shards.Balance(g.Loads, g.Homes, g.Shards)
	add("Balance", places, err)
	s, err := shards.FixtureText(g.L)
	add("FixtureText", s, err)
	fixtures, err := shards.FixtureRead(g.Text)
	add("FixtureRead", fixtures, err)
	w, refs, err := shards.Load(g.M, g.W, g.L)
	add("Load", w, refs, err)
	w, err = shards.Sow(g.M, g.Seed, g.Many)
	add("Sow", w, err)
	add("Run", shards.Run(g.Script))
	c, err := shards.New(g.M, g.Shards, g.Secret)
	if (c == nil) != (err != api.OK) {
		t.Error("New", err)
	}
	if c == nil {
		c, _ = shards.New(r.m, 3, "s")
	}
	add("Add", c.Add(g.Tenant, g.Shard))
	c.Add(1, 2)
	c.Add(2, 0)
	for range 2 {
		outcomes, err := c.Shared(g.Token, g.Now, g.Common)
		add("Shared", outcomes, err)
		outcomes, err = c.Work(g.Token, g.Tenant, g.Now, g.Acts)
		add("Work", outcomes, err)
		add("World", c.World(), c.Places())
		rows, err := c.Find(g.Token, g.Now, g.F, g.Params)
		add("Find", rows, err)
		rows, err = c.Total(g.Token, g.Now, g.Q, g.Params)
		add("Total", rows, err)
		d, err := c.Rows(g.Shard)
		add("Rows", d, err)
		add("Move", c.Move(g.Tenant, g.To))
		for range 3 {
			home, err := c.Step(g.Tenant)
			add("Step", home, err)
		}
		c.Crash()
		add("Abort", c.Abort(g.Tenant))
	}
	add("World", c.World(), c.Places())
	return l
}

// spoil makes a change without any rule.
func (r *maker) spoil(v reflect.Value) {
	switch v.Kind() {
	case reflect.Int:
		v.SetInt(int64(pick(r, 0, 1, -1, 2, 3, 7, 10, 51, api.MaxInt, api.MaxInt+1, 1<<63-1, -1<<63)))
	case reflect.Uint64:
		v.SetUint(uint64(r.Int63()))
	case reflect.String:
		if s := v.String(); len(s) > 50 {
			v.SetString(r.spoilt(s))
			return
		}
		v.SetString(pick(r, "", "a", "book", "note", "tenant", "likes", "id", "name", "next.name", "notes", ".", "é", "\n", long(39), long(41), long(101)))
	case reflect.Bool:
		v.SetBool(!v.Bool())
	case reflect.Struct:
		r.spoil(v.Field(r.Intn(v.NumField())))
	case reflect.Slice:
		switch n := r.Intn(8); {
		case n == 0:
			v.Set(reflect.Append(v.Slice3(0, v.Len(), v.Len()), reflect.Zero(v.Type().Elem())))
		case n == 1 && v.Len() > 0:
			v.Set(v.Slice(0, v.Len()-1))
		case n == 2 && v.Len() > 0:
			v.Set(reflect.Append(v.Slice3(0, v.Len(), v.Len()), cloneValue(v.Index(r.Intn(v.Len())))))
		case v.Len() > 0:
			r.spoil(v.Index(r.Intn(v.Len())))
		}
	}
}

// Z1, Z2, Z3, Z10: no function panics for strange arguments, none changes its arguments, with an error all other results are zero, and the same arguments give the same results.
func TestStrangeArguments(t *testing.T) {
	errors := map[api.Errno]int{}
	randomly(t, 12, func(t *testing.T, r *maker) {
		base := r.given(t)
		for range 25 {
			g := clone(base)
			for range 1 + r.Intn(3) {
				r.spoil(reflect.ValueOf(&g).Elem())
			}
			before := clone(g)
			got := r.callAll(t, g)
			expect(t, g, before)
			for i, x := range r.callAll(t, g) {
				err, _ := x.results[len(x.results)-1].(api.Errno)
				errors[err]++
				for k, y := range x.results {
					if !same(y, got[i].results[k]) {
						t.Error(x, got[i])
					}
					if err != api.OK && k < len(x.results)-1 && !same(y, reflect.Zero(reflect.TypeOf(y)).Interface()) {
						t.Error(x)
					}
				}
			}
		}
	})
	if len(errors) < 12 && !testing.Short() {
		t.Error("too few errors", errors)
	}
}

// Z2: results share no memory with arguments, nor with one another.
func TestMemory(t *testing.T) {
	randomly(t, 10, func(t *testing.T, r *maker) {
		g := r.given(t)
		got := r.callAll(t, g)
		wanted := r.callAll(t, clone(g))
		wipe(&g)
		for i, x := range got {
			for k := range x.results {
				if !same(x.results[k], wanted[i].results[k]) {
					t.Error("an argument is kept by", x.name, k)
				}
				y := reflect.New(reflect.TypeOf(x.results[k]))
				y.Elem().Set(reflect.ValueOf(x.results[k]))
				wipeValue(y.Elem())
			}
		}
	})
}

// Z2: a cluster keeps none of what it is given, and gives none of what it keeps.
func TestOwnMemory(t *testing.T) {
	m := library(t)
	c := cluster(t, m, 2)
	acts, k := notes(3), key(t)
	outcomes, err := c.Work(k, 1, 0, acts)
	done(t, outcomes, err)
	must(t, c.Move(1, 1))
	step(t, c, 1)
	w := clone(c.World())
	wipe(&m)
	wipe(&acts)
	wipe(&k)
	wipe(&outcomes)
	for range 2 {
		x, places := c.World(), c.Places()
		d, err := c.Rows(0)
		must(t, err)
		expect(t, x, w)
		wipe(&x)
		wipe(&d)
		wipe(&places)
	}
	stepTo(t, c, 1, api.TenantHome)
	expect(t, c.World(), w)
	expect(t, worldOf(t, library(t), c, 1), w)
}

// Z10: functions can be called by several goroutines at once, and objects of their own, too.
func TestAtTheSameTime(t *testing.T) {
	randomly(t, 3, func(t *testing.T, r *maker) {
		g := r.given(t)
		wanted := r.callAll(t, g)
		var group sync.WaitGroup
		for range 8 {
			group.Go(func() {
				for i, x := range r.callAll(t, g) {
					for k := range x.results {
						if !same(x.results[k], wanted[i].results[k]) {
							t.Error(x.name)
						}
					}
				}
			})
		}
		group.Wait()
	})
}

// Z1: long texts and lists end, too.
func TestLongArguments(t *testing.T) {
	const size = 100000
	want(t, only(shards.FixtureRead(strings.Repeat("\n", size))), api.ErrLarge)
	want(t, only(shards.FixtureText(make([]api.Fixture, size))), api.ErrLarge)
	expect(t, shards.Run(strings.Repeat("\n", size)), "error 14\n")
	expect(t, shards.Run(strings.Repeat("end\n", size/4)), "error 2\n")
	expect(t, shards.Run("end\nset a b '"+strings.Repeat("'", size)), "error 14\n")
	_, _, err := shards.Load(library(t), api.World{}, make([]api.Fixture, size))
	want(t, err, api.ErrName)
	many := make([]api.Fixture, size)
	for i := range many {
		many[i] = api.Fixture{Label: strings.Repeat("x", i%300) + string(rune(i)), Entity: "book"}
	}
	_, _, err = shards.Load(library(t), api.World{}, many)
	want(t, err, api.ErrTwice)
	c := cluster(t, library(t), 2)
	_, err = c.Work(key(t), 1, 0, make([]api.Act, size))
	want(t, err, api.ErrLarge)
	deep := api.Expr{}
	for range 1000 {
		deep = api.Expr{Kind: api.XOp, Op: api.OpNot, Args: []api.Expr{deep}}
	}
	f := api.Find{Entity: "book", Limit: -1, Where: slices.Repeat([]api.Expr{deep}, 90)}
	outcomes, err := c.Shared(key(t), 0, []api.Act{{Kind: api.ActFind, Find: []api.Find{f}}})
	must(t, err)
	want(t, outcomes[0].Error, api.ErrForm)
}

// only returns the error of a call.
func only[T any](_ T, err api.Errno) api.Errno { return err }

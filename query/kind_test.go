package query_test

import (
	"slices"
	"strings"
	"testing"

	"dumbwaiter/api"
	"dumbwaiter/query"
)

// P5.6: what conditions mean, in finds and compiled.
func TestConditions(t *testing.T) {
	for _, c := range []struct {
		entity, where string
		gone          bool
		tenant        int
		want          []int
	}{
		{"person", "some:pets()", false, 0, []int{1, 2}}, {"person", "some:dogs()", false, 0, []int{1}}, {"person", "some:dogs()", true, 0, []int{1, 2}}, {"person", "some:dogs()", true, 1, []int{1}}, {"person", "some:pets()", false, 1, []int{1}}, {"person", "some:pets()", false, 3, nil},
		{"person", "some:pets(null(:name))", false, 0, []int{1}}, {"person", "some:pets(equal(:name,'x'))", false, 0, nil},
		{"person", "every:pets(equal(:tenant,1))", false, 0, []int{1, 4}}, {"person", "every:pets(equal(:name,'rex'))", false, 0, []int{4}}, {"person", "every:pets(equal(:name,'kit'))", false, 0, []int{2, 4}},
		{"person", "equal(many:pets(),2)", false, 0, []int{1}}, {"person", "equal(many:pets(),3)", true, 0, []int{2}}, {"person", "equal(many:pets(equal(:name,'rex')),1)", false, 0, []int{1}}, {"person", "equal(many:pets(equal(:name,'rex')),0)", false, 0, []int{2, 4}},
		// A condition that is null counts as not true.
		{"person", "equal(many:pets(null),0)", false, 0, []int{1, 2, 4}}, {"person", "some:pets(null)", false, 0, nil}, {"person", "every:pets(null)", false, 0, []int{4}}, {"person", "not(some:pets(null))", false, 0, []int{1, 2, 4}}, {"person", "null(every:pets(null))", false, 0, nil},
		{"person", "is:worker()", false, 0, []int{2, 4}}, {"person", "is:person()", false, 0, []int{1, 2, 4}}, {"worker", "is:person()", false, 0, []int{2, 4}}, {"person", "is:tag()", false, 0, nil}, {"person", "not(is:tag())", false, 0, []int{1, 2, 4}},
		{"person", "is:worker(:mate)", false, 0, []int{1}}, {"person", "not(is:worker(:mate))", false, 0, []int{2, 4}}, {"person", "is:person(:mate)", false, 0, []int{1}}, {"person", "is:person(:mate)", true, 0, []int{1, 3, 4}}, {"person", "is:worker(:mate)", true, 0, []int{1}}, {"person", "is:worker(:mate.mate)", true, 0, []int{3}},
		{"pet", "is:dog()", false, 0, []int{1, 2}}, {"pet", "is:puppy()", false, 0, []int{2}}, {"dog", "is:cat()", false, 0, nil}, {"cat", "is:puppy(:fears)", true, 0, nil}, {"cat", "is:dog(:fears)", true, 2, []int{5}}, {"cat", "is:dog(:fears)", false, 2, nil}, {"dog", "is:cat(:rival)", true, 0, []int{1}}, {"dog", "is:cat(:rival)", false, 0, nil},
		{"worker", "some:boss.staff(equal(:id,up:id))", false, 0, []int{2, 4}}, {"worker", "some:staff(unequal(:id,up:id))", false, 0, []int{2}}, {"person", "some:mate.pets()", false, 0, []int{1}}, {"person", "every:mate.pets(equal(:id,0))", false, 0, []int{2, 4}}, {"person", "equal(many:mate.pets(),0)", false, 0, []int{2, 4}},
		{"person", "some:friends(equal(:id,up:id))", false, 0, []int{1}}, {"person", "equal(many:friends(),2)", false, 0, []int{1}}, {"person", "equal(many:friends(),2)", true, 0, []int{1, 2}}, {"person", "some:friends(some:friends(and(unequal(:id,up:id),equal(:name,'ann'))))", false, 0, []int{1}},
		// Those of To alone, where others have the RelOne, too.
		{"person", "equal(many:helpers(),1)", true, 0, []int{3}}, {"person", "some:helpers()", true, 0, []int{3}}, {"person", "some:helpers()", false, 0, nil}, {"person", "some:helpers(equal(up:name,'eve'))", true, 0, []int{3}},
		{"pet", "some:likes(equal(:id,up:id))", false, 0, []int{2}}, {"pet", "equal(many:liked(),2)", false, 0, []int{2}}, {"pet", "equal(many:likes(),2)", true, 0, []int{1}}, {"pet", "equal(many:likes(),1)", false, 0, []int{1, 2}},
		{"tag", "some:people(greater(:age,1))", false, 0, []int{1}}, {"tag", "equal(many:people(),1)", false, 0, []int{2}}, {"tag", "some:people(and(is:worker(),equal(:mate,null)))", false, 0, nil}, {"tag", "some:people(and(is:worker(),null(:mate)))", false, 0, []int{1, 2}},
		// A reference to an object that is not seen is null.
		{"worker", "null(:mate)", false, 0, []int{2, 4}}, {"worker", "null(:mate)", true, 0, []int{2}}, {"cat", "null(:fears)", false, 0, []int{5}}, {"cat", "equal(:fears,1)", true, 2, []int{5}}, {"worker", "null(:mate.tall)", false, 0, []int{2, 4}}, {"cat", "null(:fears.nick)", false, 0, []int{5}},
		{"person", ":adult", false, 0, []int{1}}, {"person", "not(:adult)", true, 0, []int{3, 4}}, {"worker", "equal(:boss.pay,50)", false, 0, []int{2, 4}}, {"person", "equal(:home.city,'ulm')", false, 0, []int{1}}, {"person", "equal(:version,3)", false, 0, []int{2}}, {"person", "null(:gone)", true, 0, []int{1, 2, 4}}, {"person", "equal(:gone,@1970-01-01T00:01:00)", true, 0, []int{3}}, {"pet", "equal(:tenant,2)", false, 0, []int{5}}, {"cat", "equal(:lives,3)", false, 0, []int{5}}, {"puppy", "and(:good,true)", false, 0, nil}, {"puppy", "equal(:nick,'dog')", false, 0, []int{2}},
		{"dog", "some:owner.dogs(and(unequal(:id,up:id),equal(up:owner.name,:owner.name)))", false, 0, []int{1, 2}},
	} {
		f := api.Find{Entity: c.entity, Where: conds(t, c.where), Limit: -1, Gone: c.gone, Tenant: c.tenant}
		if got := idsOf(t, f); !same(got, c.want) {
			t.Error(c, got)
		}
	}
}

// P5.7: kinds of conditions.
func TestKindOf(t *testing.T) {
	for s, want := range map[string]int{
		"some:pets()": api.Bool, "every:pets(null)": api.Bool, "many:pets(is:dog())": api.Int, "is:worker(:mate)": api.Bool,
		":name": api.Text, ":mate": api.Int, ":gone": api.Moment, ":adult": api.Bool, "null": api.Null, "?0": api.Int, "add(?1,1)": api.Moment, "coalesce(null,:mate.name)": api.Text, "some:pets(equal(up:id,:owner))": api.Bool,
		"sub(:gone,null)": api.Null, "case(null,1,null)": api.Int, "some:friends(some:pets(equal(up:name,:name)))": api.Bool,
	} {
		if got, err := query.KindOf(zoo(t), "person", cond(t, s), []int{api.Int, api.Moment}); got != want || err != api.OK {
			t.Error(s, got, err)
		}
	}
}

// P5.7: errors of parts, each with the error that comes behind it.
func TestKindOfErrors(t *testing.T) {
	zero := lit(null)
	bad := api.Expr{Kind: 99}
	with := func(e api.Expr, change func(e *api.Expr)) api.Expr {
		e = clone(e)
		change(&e)
		return e
	}
	some, every, count := multi(api.XSome, "pets"), multi(api.XEvery, "pets", zero), multi(api.XMany, "pets")
	is := api.Expr{Kind: api.XIs, Name: "worker"}
	mates := strings.Repeat("mate.", 5)
	cases := []struct {
		e    api.Expr
		want api.Errno
	}{
		{bad, api.ErrKind}, {api.Expr{}, api.ErrKind}, {op(api.OpNot, bad), api.ErrKind}, {op(99, col("", "x")), api.ErrName}, {op(99, zero), api.ErrKind}, {api.Expr{Kind: api.XExists}, api.ErrKind}, {api.Expr{Kind: api.XAgg, Op: 1}, api.ErrKind}, {api.Expr{Kind: 25}, api.ErrKind},
		{op(api.OpNot), api.ErrForm}, {op(api.OpNot, lit(integer(1))), api.ErrType}, {op(api.OpAnd, lit(integer(1)), bad), api.ErrKind}, {lit(api.Value{Kind: 7}), api.ErrForm}, {lit(api.Value{Kind: api.Int, N: api.MaxInt + 1}), api.ErrArg}, {lit(text(long(101))), api.ErrLarge}, {op(api.OpCast, zero), api.ErrArg},
		{api.Expr{Kind: api.XParam, N: 2}, api.ErrArg}, {api.Expr{Kind: api.XParam, N: -1}, api.ErrArg}, {api.Expr{Kind: api.XParam, Name: "x"}, api.ErrForm}, {api.Expr{Kind: api.XParam, N: 9, Name: "x"}, api.ErrForm}, {api.Expr{Kind: api.XParam, Args: []api.Expr{zero}}, api.ErrForm}, {api.Expr{Kind: api.XParam, Sub: make([]api.Select, 1)}, api.ErrKind},
		// XColumn
		{with(col("", "x"), func(e *api.Expr) { e.N = 1 }), api.ErrForm}, {with(col("x", "x"), func(e *api.Expr) { e.Sub = make([]api.Select, 1) }), api.ErrKind}, {with(col("", "x"), func(e *api.Expr) { e.Args = []api.Expr{zero} }), api.ErrForm}, {with(col("", "x"), func(e *api.Expr) { e.Args = []api.Expr{bad} }), api.ErrKind},
		{col("up", "name"), api.ErrName}, {col("x", "name"), api.ErrName}, {col("up", mates+"name"), api.ErrName}, {col("", mates+"name"), api.ErrLarge}, {col("", "x"), api.ErrName}, {col("", "pets"), api.ErrName}, {col("", ""), api.ErrName},
		{multi(api.XSome, "pets", op(api.OpNull, col("up", "up"))), api.ErrName}, {multi(api.XSome, "pets", op(api.OpNull, col("up", "tenant"))), api.ErrName}, {multi(api.XSome, "pets", op(api.OpNull, col("", "age"))), api.ErrName}, {multi(api.XSome, "pets", op(api.OpNull, col("up", mates+"x"))), api.ErrLarge}, {op(api.OpAnd, some, op(api.OpNull, col("up", "id"))), api.ErrName},
		// XSome, XEvery, XMany: form, path, Args, kind of Arg
		{multi(api.XSome, "x", bad, bad), api.ErrForm}, {multi(api.XMany, "x", bad, bad), api.ErrForm}, {multi(api.XEvery, "x"), api.ErrForm}, {multi(api.XEvery, "x", bad, bad), api.ErrForm},
		{multi(api.XSome, "x", bad), api.ErrName}, {multi(api.XMany, "mate", bad), api.ErrName}, {multi(api.XEvery, "", bad), api.ErrName}, {multi(api.XSome, "mate.mate.mate.mate.x", bad), api.ErrLarge},
		{multi(api.XSome, "pets", bad), api.ErrKind}, {multi(api.XEvery, "pets", lit(integer(1))), api.ErrType}, {multi(api.XSome, "pets", col("", "name")), api.ErrType}, {multi(api.XMany, "pets", multi(api.XMany, "likes")), api.ErrType}, {multi(api.XSome, "pets", multi(api.XSome, "pets")), api.ErrName},
		// XIs: form, path, name
		{with(is, func(e *api.Expr) { e.Args, e.Name, e.Source = []api.Expr{bad}, "x", "x" }), api.ErrForm},
		{with(is, func(e *api.Expr) { e.Source, e.Name = strings.Repeat("mate.", 5)+"x", "x" }), api.ErrLarge}, {with(is, func(e *api.Expr) { e.Source = strings.Repeat("mate.", 5) + "mate" }), api.ErrLarge}, {with(is, func(e *api.Expr) { e.Source = "mate.mate.mate.mate.mate" }), api.ErrName}, {with(is, func(e *api.Expr) { e.Source = "mate.mate.mate.mate" }), api.OK}, {with(is, func(e *api.Expr) { e.Source = "mate.mate.mate.mate.x" }), api.ErrName},
		{with(is, func(e *api.Expr) { e.Source = "pets" }), api.ErrName}, {with(is, func(e *api.Expr) { e.Source = "name" }), api.ErrName}, {with(is, func(e *api.Expr) { e.Source = "mate." }), api.ErrName}, {with(is, func(e *api.Expr) { e.Source = "up" }), api.ErrName}, {with(is, func(e *api.Expr) { e.Name = "owl" }), api.ErrName}, {with(is, func(e *api.Expr) { e.Name = "" }), api.ErrName},
	}
	unused := []func(e *api.Expr){
		func(e *api.Expr) { e.Op = 1 }, func(e *api.Expr) { e.N = 1 }, func(e *api.Expr) { e.Value.N = 1 }, func(e *api.Expr) { e.Distinct = true }, func(e *api.Expr) { e.Sub = make([]api.Select, 1) }, func(e *api.Expr) { e.Group = make([]api.Expr, 1) }, func(e *api.Expr) { e.Order = make([]api.Order, 1) },
	}
	for _, change := range unused {
		for _, e := range []api.Expr{some, every, count, is} {
			e = with(e, change)
			e.Name = "x"
			for i := range e.Args {
				e.Args[i] = bad
			}
			cases = append(cases, struct {
				e    api.Expr
				want api.Errno
			}{e, api.ErrForm})
		}
	}
	for _, e := range []api.Expr{some, every, count} {
		cases = append(cases, struct {
			e    api.Expr
			want api.Errno
		}{with(e, func(e *api.Expr) { e.Source = "up" }), api.ErrForm})
	}
	for i, c := range cases {
		if kind, err := query.KindOf(zoo(t), "person", c.e, []int{api.Int, api.Moment}); err != c.want || err != api.OK && kind != 0 {
			t.Error(i, c.e, kind, err, c.want)
		}
	}
}

// P5.7: params, the entity and limits come ahead of the parts.
func TestKindOfLimits(t *testing.T) {
	type args struct {
		Entity string
		E      api.Expr
		Params []int
	}
	tryFaults(t, args{"person", cond(t, "some:pets(some:likes(null(:name)))"), []int{1}}, func(x args) api.Errno {
		_, err := query.KindOf(zoo(t), x.Entity, x.E, x.Params)
		return err
	}, faults(fault[args]{"params", func(x *args) { x.Params = []int{1, 0} }, api.ErrKind},
		fault[args]{"params", func(x *args) { x.Params = []int{5} }, api.ErrKind},
		fault[args]{"entity", func(x *args) { x.Entity = "owl" }, api.ErrName},
		fault[args]{"e", func(x *args) { x.E = nested(24, lit(null)) }, api.ErrLarge},
		fault[args]{"e", func(x *args) { x.E = nested(23, lit(integer(1))) }, api.ErrType},
	))
	for _, c := range []struct {
		e    api.Expr
		want api.Errno
	}{
		{nested(23, lit(null)), api.OK}, {nested(24, lit(null)), api.ErrLarge}, {multi(api.XSome, "pets", nested(22, lit(null))), api.OK}, {multi(api.XSome, "pets", nested(23, lit(null))), api.ErrLarge}, {nested(24, api.Expr{}), api.ErrLarge},
		{api.Expr{Kind: api.XIn, Args: many(399, lit(null))}, api.OK}, {api.Expr{Kind: api.XIn, Args: many(400, lit(null))}, api.ErrLarge}, {op(api.OpCoalesce, many(399, col("", "name"))...), api.OK}, {multi(api.XSome, "x", many(400, lit(null))...), api.ErrLarge}, {op(api.OpNot, many(399, lit(null))...), api.ErrForm},
		// Formulas do not count.
		{op(api.OpAnd, nested(22, col("", "adult")), api.Expr{Kind: api.XIn, Args: many(370, col("", "adult"))}), api.OK},
	} {
		if _, err := query.KindOf(zoo(t), "person", c.e, nil); err != c.want {
			t.Error(err, c.want)
		}
	}
}

// faults is a list of faults.
func faults[T any](l ...fault[T]) []fault[T] { return l }

// P5.8: values of conditions, and errors behind that of the object.
func TestHolds(t *testing.T) {
	holds := func(o api.Ref, s string, params ...api.Value) (api.Value, api.Errno) {
		return query.Holds(zoo(t), zooWorld(t), o, cond(t, s), params)
	}
	ann := ref("person", 0, 1)
	for _, c := range []struct {
		o      api.Ref
		s      string
		params []api.Value
		want   api.Value
	}{
		{ann, "many:pets()", nil, integer(2)}, {ann, ":mate.name", nil, text("bob")}, {ann, "add(?0,1)", row(integer(1)), integer(2)}, {ann, "add(?0,1)", row(null), null}, {ann, "and(?0,equal(?0,'x'))", row(null), null}, {ann, "every:pets(null)", nil, boolean(0)},
		// In a world that is not what is seen, gone objects count.
		{ref("worker", 0, 2), "many:pets()", nil, integer(3)}, {ref("worker", 0, 4), ":mate.name", nil, text("eve")}, {ref("worker", 0, 4), "is:person(:mate)", nil, boolean(1)}, {ref("dog", 1, 1), "is:cat(:rival)", nil, boolean(1)}, {ref("worker", 0, 2), ":pay", nil, integer(50)},
	} {
		if got, err := holds(c.o, c.s, c.params...); got != c.want || err != api.OK {
			t.Error(c, got, err)
		}
	}
	for _, c := range []struct {
		o      api.Ref
		s      string
		params []api.Value
		want   api.Errno
	}{
		{ref("person", 0, 9), "x:x", row(api.Value{Kind: 9}), api.ErrNone}, {ann, "x:x", row(api.Value{Kind: 9}), api.ErrForm}, {ann, "x:x", row(null, api.Value{N: 1}), api.ErrForm}, {ann, "x:x", row(text("\n")), api.ErrForm}, {ann, "x:x", row(null), api.ErrName}, {ann, ":pay", nil, api.ErrName}, {ann, "?1", row(null), api.ErrArg}, {ann, "not(?0)", row(integer(1)), api.ErrType},
	} {
		if got, err := holds(c.o, c.s, c.params...); got != null || err != c.want {
			t.Error(c, got, err)
		}
	}
	if _, err := query.Holds(zoo(t), zooWorld(t), ann, nested(24, lit(null)), nil); err != api.ErrLarge {
		t.Error(err)
	}
}

// P5.8: the value of a parameter counts for each part, also where it is not the first one.
func TestParameters(t *testing.T) {
	f := api.Find{Entity: "person", Where: conds(t, "some:pets(and(equal(:name,?1),equal(up:id,?0)))"), Limit: -1}
	if got := idsOf(t, f, integer(1), text("rex")); !slices.Equal(got, []int{1}) {
		t.Error(got)
	}
	if got := idsOf(t, f, integer(1), null); len(got) > 0 {
		t.Error(got)
	}
	if got := idsOf(t, f, integer(2), text("rex"), boolean(1)); len(got) > 0 {
		t.Error(got)
	}
}

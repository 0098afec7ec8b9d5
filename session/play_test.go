package session_test

import (
	"slices"
	"sync"
	"testing"

	"dumbwaiter/api"
	"dumbwaiter/schema"
	"dumbwaiter/session"
	"dumbwaiter/store"
)

// P7.13: the errors of New in their order.
func TestNew(t *testing.T) {
	type args struct {
		m                api.Model
		db               *store.Store
		tenant, now, way int
		hooks            []api.Hook
	}
	other := func(change func(s *api.Schema)) func(x *args) {
		return func(x *args) {
			s, err := schema.Tables(zoo(t))
			must(t, err)
			change(&s)
			x.db, err = store.New(s)
			must(t, err)
		}
	}
	try := func(change func(x *args), e api.Errno) {
		t.Helper()
		x := args{zoo(t), storeOf(t, zoo(t), family()), 0, 0, api.LoadLazy, nil}
		change(&x)
		s, err := session.New(x.m, x.db, x.tenant, x.now, x.way, x.hooks)
		if err != e || (s == nil) != (e != api.OK) {
			t.Error(s, err, e)
		}
	}
	groups := [][]struct {
		change func(x *args)
		want   api.Errno
	}{
		{{func(x *args) { x.m.Entities[0].Name = "A" }, api.ErrName}, {func(x *args) { x.m.Entities[1].Fields[0].Kind = 9 }, api.ErrKind}},
		{{other(func(s *api.Schema) { s.Tables = nil }), api.ErrForm}},
		{
			{func(x *args) { x.tenant = -1 }, api.ErrArg}, {func(x *args) { x.tenant = api.MaxInt + 1 }, api.ErrArg}, {func(x *args) { x.now = -1 }, api.ErrArg},
			{func(x *args) { x.now = api.MaxMoment + 1 }, api.ErrArg}, {func(x *args) { x.way = 0 }, api.ErrArg}, {func(x *args) { x.way = 4 }, api.ErrArg},
		},
		{{func(x *args) { x.hooks = []api.Hook{{Entity: "person", When: 3}} }, api.ErrKind}, {func(x *args) { x.hooks = make([]api.Hook, api.MaxHooks+1) }, api.ErrLarge}},
	}
	for _, more := range []func(s *api.Schema){
		func(s *api.Schema) {
			s.Tables = append(s.Tables, api.Table{Name: "zzz", Columns: s.Tables[0].Columns, Key: s.Tables[0].Key})
		},
		func(s *api.Schema) {
			s.Tables = slices.DeleteFunc(s.Tables, func(x api.Table) bool { return x.Name == "person_friends" })
		},
		func(s *api.Schema) { s.Tables[0].Columns[1].Null = !s.Tables[0].Columns[1].Null },
		func(s *api.Schema) { s.Tables[1].Columns[1].Default = text("x") },
		func(s *api.Schema) { s.Tables[1].Foreigns = s.Tables[1].Foreigns[1:] },
		func(s *api.Schema) { s.Tables[3].Indexes[0].Unique = false },
	} {
		groups[1] = append(groups[1], struct {
			change func(x *args)
			want   api.Errno
		}{other(more), api.ErrForm})
	}
	for i, group := range groups {
		for _, a := range group {
			try(a.change, a.want)
			for _, later := range groups[i+1:] {
				for _, b := range later {
					try(func(x *args) { b.change(x); a.change(x) }, a.want)
				}
			}
		}
	}
	for _, change := range []func(x *args){
		func(x *args) {}, func(x *args) { x.tenant, x.now, x.way = api.MaxInt, api.MaxMoment, api.LoadEager },
		other(func(s *api.Schema) {
			i, _ := slices.BinarySearchFunc(s.Tables, "history_", func(x api.Table, name string) int { return compareTexts(x.Name, name) })
			s.Tables = slices.Insert(s.Tables, i, api.Table{Name: "history_", Columns: []api.Column{{Name: "number", Kind: api.Int}, {Name: "sum", Kind: api.Text}}, Key: []string{"number"}})
		}),
	} {
		try(change, api.OK)
	}
}

func compareTexts(a, b string) int {
	switch {
	case a < b:
		return -1
	case a > b:
		return 1
	}
	return 0
}

// P7.14: the form of acts.
func TestActs(t *testing.T) {
	uses := map[int]string{
		api.ActMake: "EN", api.ActSave: "A", api.ActGet: "EN", api.ActFind: "FP", api.ActValue: "AM", api.ActSet: "AMV", api.ActOne: "AM", api.ActPoint: "AMB", api.ActAll: "AM",
		api.ActLink: "AMB", api.ActUnlink: "AMB", api.ActRemove: "A", api.ActHold: "A", api.ActFlush: "", api.ActCommit: "", api.ActRollback: "",
	}
	fields := map[rune]func(a *api.Act){
		'A': func(a *api.Act) { a.A = 99 }, 'B': func(a *api.Act) { a.B = 98 }, 'N': func(a *api.Act) { a.N = -1 }, 'E': func(a *api.Act) { a.Entity = "x" }, 'M': func(a *api.Act) { a.Name = "x" },
		'V': func(a *api.Act) { a.Value = integer(1) }, 'F': func(a *api.Act) { a.Find = []api.Find{{Entity: "x"}} }, 'P': func(a *api.Act) { a.Params = row(null) },
	}
	for kind := -1; kind <= 18; kind++ {
		used, known := uses[kind]
		for field, change := range fields {
			u := visit(t)
			a := api.Act{Kind: kind}
			change(&a)
			if kind == api.ActFind && field != 'F' {
				fields['F'](&a)
			}
			out := session.Play(u.Session, []api.Act{a})
			if len(out) != 1 || len(out[0].Handles) > 0 || out[0].Value != null {
				t.Fatal(out)
			}
			isForm := !slices.Contains([]rune(used), field)
			switch got := out[0].Error; {
			case !known && got != api.ErrKind, known && (got == api.ErrForm) != isForm, got == api.ErrKind && known:
				t.Error(kind, string(field), got)
			}
		}
	}
	u := visit(t)
	for _, l := range [][]api.Find{nil, {all("pet"), all("pet")}} {
		expect(t, session.Play(u.Session, []api.Act{{Kind: api.ActFind, Find: l}}), []api.Outcome{{Error: api.ErrForm}})
	}
	expect(t, session.Play(u.Session, nil), []api.Outcome{})
	u.statements(0)
}

// script0 is a list of acts with all kinds, and its outcomes.
func script0(t testing.TB) ([]api.Act, []api.Outcome) {
	f := api.Find{Entity: "pet", Where: where(t, "equal(:name,?0)"), Limit: -1}
	ok := func(l ...int) api.Outcome { return api.Outcome{Handles: l} }
	acts := []api.Act{
		{Kind: api.ActMake, Entity: "worker"}, {Kind: api.ActGet, Entity: "pet", N: 2}, {Kind: api.ActFind, Find: []api.Find{f}, Params: row(text("Rex"))},
		{Kind: api.ActOne, A: 2, Name: "vet"}, {Kind: api.ActOne, A: 3, Name: "vet"}, {Kind: api.ActValue, A: 3, Name: "owner.home.city"},
		{Kind: api.ActSave, A: 1}, {Kind: api.ActSet, A: 1, Name: "name", Value: text("Eve")}, {Kind: api.ActPoint, A: 3, Name: "vet", B: 1},
		{Kind: api.ActLink, A: 1, Name: "pets", B: 2}, {Kind: api.ActAll, A: 1, Name: "pets"}, {Kind: api.ActUnlink, A: 1, Name: "pets", B: 2}, {Kind: api.ActHold, A: 4}, {Kind: api.ActFlush},
		{Kind: api.ActCommit}, {Kind: api.ActRemove, A: 2}, {Kind: api.ActFlush}, {Kind: api.ActGet, Entity: "pet", N: 2}, {Kind: api.ActRollback}, {Kind: api.ActValue, A: 1, Name: "name"},
		{Kind: api.ActGet, Entity: "person", N: 3}, {Kind: api.ActValue, A: 5, Name: "name"}, {Kind: api.ActPoint, A: 5, Name: "mate", B: 0}, {Kind: 0}, {Kind: api.ActAll, A: 5, Name: "pets"},
	}
	return acts, []api.Outcome{
		ok(1), ok(2), ok(3), ok(4), ok(), {Value: text("Ulm")}, ok(), ok(), ok(), ok(), ok(2), ok(), ok(), ok(), ok(), ok(), ok(), {Error: api.ErrNone}, ok(), {Error: api.ErrState},
		ok(5), {Value: text("Eve")}, ok(), {Error: api.ErrKind}, ok(),
	}
}

// P7.14: Play and Direct.
func TestPlay(t *testing.T) {
	m := zoo(t)
	acts, outcomes := script0(t)
	for way := api.LoadLazy; way <= api.LoadEager; way++ {
		db := storeOf(t, m, family())
		u := use(t, m, db, way)
		expect(t, session.Play(u.Session, acts[:10]), outcomes[:10])
		expect(t, session.Play(u.Session, acts[10:]), outcomes[10:])
		l, after, err := session.Direct(m, family(), 0, 100, nil, acts)
		must(t, err)
		expect(t, l, outcomes)
		expect(t, after, worldOf(t, m, db))
		expect(t, len(after.Objects), 7)
		expect(t, after.Objects[6], api.Object{Entity: "pet", ID: 2, Version: 4, Values: row(text("Tom")), Ones: []int{0, 2}})
	}
	// Without a commit the world is as it was.
	_, after, err := session.Direct(m, family(), 0, 0, nil, acts[:14])
	must(t, err)
	expect(t, after, family())
	_, after, err = session.Direct(m, api.World{}, 7, 0, nil, nil)
	must(t, err)
	expect(t, after, api.World{})
}

// P7.14: the errors of Direct in their order.
func TestDirectErrors(t *testing.T) {
	type args struct {
		m           api.Model
		w           api.World
		tenant, now int
		hooks       []api.Hook
		acts        []api.Act
	}
	base := args{zoo(t), family(), 1, 1, []api.Hook{refuses(t, "person", api.HookSave, "false")}, make([]api.Act, api.MaxActs)}
	try := func(change func(x *args), e api.Errno) {
		t.Helper()
		x := args{clone(base.m), clone(base.w), 1, 1, clone(base.hooks), base.acts}
		change(&x)
		l, w, err := session.Direct(x.m, x.w, x.tenant, x.now, x.hooks, x.acts)
		want(t, err, e)
		if e != api.OK {
			expect(t, l, []api.Outcome{})
			expect(t, w, api.World{})
		} else {
			expect(t, len(l), len(x.acts))
		}
	}
	faults := []struct {
		change func(x *args)
		want   api.Errno
	}{
		{func(x *args) { x.m.Entities[0].Name = "A" }, api.ErrName},
		{func(x *args) { x.w.Objects[1].Ones[0] = 9 }, api.ErrRef},
		{func(x *args) { x.tenant = -1 }, api.ErrArg},
		{func(x *args) { x.tenant = api.MaxInt + 1 }, api.ErrArg},
		{func(x *args) { x.now = api.MaxMoment + 1 }, api.ErrArg},
		{func(x *args) { x.hooks[0].When = 5 }, api.ErrKind},
		{func(x *args) { x.acts = append(x.acts, api.Act{}) }, api.ErrLarge},
	}
	try(func(x *args) {}, api.OK)
	for i, a := range faults {
		for _, b := range faults[i:] {
			try(func(x *args) { b.change(x); a.change(x) }, a.want)
		}
	}
}

// Z2: Direct neither changes nor keeps its arguments, and its results share no memory.
func TestDirectMemory(t *testing.T) {
	m, w := zoo(t), family()
	acts, outcomes := script0(t)
	before := clone(acts)
	l, after, err := session.Direct(m, w, 0, 100, nil, acts)
	must(t, err)
	expect(t, w, family())
	expect(t, m, zoo(t))
	expect(t, acts, before)
	want := clone(after)
	for _, o := range w.Objects {
		clear(o.Values)
		clear(o.Ones)
	}
	clear(w.Objects)
	clear(w.Pairs)
	clear(acts)
	expect(t, after, want)
	for i := range l {
		l[i].Handles = append(l[i].Handles, 9)
	}
	for i := range l {
		l[i].Handles = l[i].Handles[:len(l[i].Handles)-1]
	}
	expect(t, l, outcomes)
	for i := range after.Objects {
		clear(after.Objects[i].Values)
		for k := range after.Objects {
			if k > i {
				expect(t, after.Objects[k].Values, want.Objects[k].Values)
			}
		}
	}
}

// Z10: Direct and CheckHooks can be called at once, and sessions on stores of their own, too.
func TestAtTheSameTime(t *testing.T) {
	m := zoo(t)
	acts, outcomes := script0(t)
	hooks := []api.Hook{refuses(t, "person", api.HookSave, "false")}
	var l sync.WaitGroup
	for range 8 {
		l.Go(func() {
			got, _, err := session.Direct(m, family(), 0, 100, hooks, acts)
			if err != api.OK || !same(got, outcomes) || session.CheckHooks(m, hooks) != api.OK {
				t.Error(got, err)
			}
			s, err := session.New(m, storeOf(t, m, family()), 0, 100, api.LoadLazy, hooks)
			if err != api.OK || !same(session.Play(s, acts), outcomes) {
				t.Error(err)
			}
		})
	}
	l.Wait()
}

// The example of the chapter.
func TestExample(t *testing.T) {
	for way, e := range map[string]api.Errno{"refuse": api.ErrRef, "cascade": api.OK} {
		m := model(t, "entity person", "many pets pet owner", "entity pet", "one owner person need "+way+" save")
		_, u := fresh(t, m)
		person, pet := u.made("person", 1)[0], u.made("pet", 1)[0]
		must(t, u.Point(pet, "owner", person), u.Save(pet), u.Flush())
		expect(t, []int{u.object(person).ID, u.object(pet).ID}, []int{1, 1})
		expect(t, u.all(person, "pets"), []int{pet})
		must(t, u.Remove(person))
		want(t, u.Flush(), e)
		if e == api.OK {
			u.states(api.StatePast, api.StatePast)
		}
	}
}

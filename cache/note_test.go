package cache_test

import (
	"testing"

	"dumbwaiter/api"
	"dumbwaiter/cache"
	"dumbwaiter/query"
)

// P8.1: what a commit has changed, in its order.
func TestNoted(t *testing.T) {
	m := library(t)
	tell := func(change func(w *api.World)) api.Note {
		t.Helper()
		w := shelf()
		change(&w)
		n, err := cache.Noted(m, shelf(), w, 7)
		must(t, err)
		back, err := cache.Noted(m, w, shelf(), 7)
		must(t, err)
		expect(t, back.Tags, n.Tags)
		expect(t, n.Number, 7)
		return n
	}
	book1, note11, note12, note21 := api.Ref{Entity: "book", ID: 1}, api.Ref{Entity: "note", Tenant: 1, ID: 1}, api.Ref{Entity: "note", Tenant: 1, ID: 2}, api.Ref{Entity: "note", Tenant: 2, ID: 1}
	books, notes1, notes2 := api.Tag{Entity: "book"}, api.Tag{Entity: "note", Tenant: 1}, api.Tag{Entity: "note", Tenant: 2}
	for i, x := range []struct {
		change func(w *api.World)
		refs   []api.Ref
		tags   []api.Tag
	}{
		{func(w *api.World) {}, nil, nil},
		{func(w *api.World) { w.Objects[0].Version++ }, []api.Ref{book1}, []api.Tag{books}},
		{func(w *api.World) { w.Objects[0].Gone = moment(0) }, []api.Ref{book1}, []api.Tag{books}},
		{func(w *api.World) { w.Objects[0].Values[0] = text("A") }, []api.Ref{book1}, []api.Tag{books}},
		{func(w *api.World) { w.Objects[0].Ones[0] = 0 }, []api.Ref{book1}, []api.Tag{books}},
		{func(w *api.World) { w.Objects[3].Values[0] = null; w.Objects[4].Ones[0] = 2 }, []api.Ref{note12, note21}, []api.Tag{notes1, notes2}},
		{func(w *api.World) { w.Objects = append(w.Objects, note(2, 3, 0, "")) }, []api.Ref{{Entity: "note", Tenant: 2, ID: 3}}, []api.Tag{notes2}},
		{func(w *api.World) { w.Objects, w.Pairs = w.Objects[:4], w.Pairs[:2] }, []api.Ref{note21}, []api.Tag{notes2, {Entity: "note", Relation: "likes", Tenant: 2}}},
		{func(w *api.World) { w.Pairs = w.Pairs[1:] }, nil, []api.Tag{{Entity: "note", Relation: "about", Tenant: 1}}},
		{func(w *api.World) { w.Pairs[1].Right = 1; w.Pairs[2] = likes(1, 2, 2) }, nil, []api.Tag{{Entity: "note", Relation: "likes", Tenant: 1}, {Entity: "note", Relation: "likes", Tenant: 2}}},
		{
			func(w *api.World) {
				w.Pairs = append([]api.PairOf{{Entity: "book", Relation: "near", Left: 1, Right: 1}, {Entity: "book", Relation: "near", Left: 1, Right: 2}}, w.Pairs...)
				w.Objects[0].Version, w.Objects[2].Version = 2, 2
			},
			[]api.Ref{book1, note11}, []api.Tag{books, {Entity: "book", Relation: "near"}, notes1},
		},
		// What becomes an object of another entity is two objects.
		{
			func(w *api.World) {
				w.Objects[1].Entity, w.Objects[1].Values = "novel", row(text("b"), integer(1))
				w.Objects[2].Entity, w.Objects[2].Values = "memo", row(text("x"), null)
			},
			[]api.Ref{{Entity: "book", ID: 2}, {Entity: "novel", ID: 2}, {Entity: "memo", Tenant: 1, ID: 1}, note11}, []api.Tag{books, notes1},
		},
	} {
		n := tell(x.change)
		if !same(n.Refs, x.refs) || !same(n.Tags, x.tags) {
			t.Error(i, n, "want", x)
		}
	}
}

// P8.1: Refs are sorted by the position of the root in the model, not by its name; Tags by names.
func TestOrderOfNotes(t *testing.T) {
	m := model(t, "entity z tenant", "entity b", "entity a of z", "entity c of b", "pairs x b", "pairs w c")
	w := api.World{
		Objects: []api.Object{{Entity: "z", Tenant: 1, ID: 2}, {Entity: "a", Tenant: 2, ID: 1}, {Entity: "z", Tenant: 10, ID: 1}, {Entity: "c", ID: 1}, {Entity: "b", ID: 10}},
		Pairs:   []api.PairOf{{Entity: "c", Relation: "w", Left: 1, Right: 1}, {Entity: "c", Relation: "x", Left: 1, Right: 10}},
	}
	n, err := cache.Noted(m, w, api.World{}, api.MaxInt)
	must(t, err)
	expect(t, n, api.Note{
		Number: api.MaxInt,
		Refs:   []api.Ref{{Entity: "z", Tenant: 1, ID: 2}, {Entity: "a", Tenant: 2, ID: 1}, {Entity: "z", Tenant: 10, ID: 1}, {Entity: "c", ID: 1}, {Entity: "b", ID: 10}},
		Tags:   []api.Tag{{Entity: "b"}, {Entity: "c", Relation: "w"}, {Entity: "c", Relation: "x"}, {Entity: "z", Tenant: 1}, {Entity: "z", Tenant: 2}, {Entity: "z", Tenant: 10}},
	})
}

// P8.1: the errors of Noted in their order.
func TestErrorsOfNoted(t *testing.T) {
	type args struct {
		M             api.Model
		Before, After api.World
		Number        int
	}
	tryFaults(t, args{library(t), shelf(), shelf(), 1}, func(x args) api.Errno {
		n, err := cache.Noted(x.M, x.Before, x.After, x.Number)
		if err != api.OK && !same(n, api.Note{}) {
			t.Error(n)
		}
		return err
	}, []fault[args]{
		{"m", func(x *args) { x.M.Entities[0].Name = "A" }, api.ErrName},
		{"before", func(x *args) { x.Before.Objects[0].ID = 0 }, api.ErrArg},
		{"before", func(x *args) { x.Before.Objects[2].Ones[0] = 3 }, api.ErrRef},
		{"after", func(x *args) { x.After.Objects[1].ID = 1 }, api.ErrTwice},
		{"after", func(x *args) { x.After.Pairs[1].Left = 9 }, api.ErrRef},
		{"number", func(x *args) { x.Number = 0 }, api.ErrArg},
		{"number", func(x *args) { x.Number = -1 }, api.ErrArg},
		{"number", func(x *args) { x.Number = api.MaxInt + 1 }, api.ErrArg},
	})
}

// P8.2: what finds depend on.
func TestTags(t *testing.T) {
	m := library(t)
	books, notes, near, aboutTag, likesTag := api.Tag{Entity: "book"}, api.Tag{Entity: "note"}, api.Tag{Entity: "book", Relation: "near"}, api.Tag{Entity: "note", Relation: "about"}, api.Tag{Entity: "note", Relation: "likes"}
	for _, x := range []struct {
		entity, where string
		order         []string
		include       []string
		want          []api.Tag // for all tenants
	}{
		{"book", "", nil, nil, []api.Tag{books}},
		{"novel", "is:memo()", []string{"id", "pages"}, nil, []api.Tag{books}},
		{"memo", "equal(:body,?59)", []string{"tenant", "version"}, nil, []api.Tag{notes}},
		{"note", "null(:book)", nil, nil, []api.Tag{books, notes}},
		{"note", "", []string{"book"}, nil, []api.Tag{books, notes}},
		{"note", "", []string{"body", "reply.reply.reply.reply.book"}, nil, []api.Tag{books, notes}},
		{"note", "", []string{"reply.body"}, nil, []api.Tag{notes}},
		{"book", "some:notes()", nil, nil, []api.Tag{books, notes}},
		{"book", "every:near(equal(:name,up:name))", nil, nil, []api.Tag{books, near}},
		{"book", "less(many:notes(some:likes(some:about())),2)", nil, nil, []api.Tag{books, notes, aboutTag, likesTag}},
		{"novel", "or(is:novel(:next.next),?0)", nil, nil, []api.Tag{books}},
		{"note", "is:novel(:book.next)", nil, nil, []api.Tag{books, notes}},
		{"memo", "some:book.next.near()", nil, []string{"reply.likes", "reply.replies", "about.near"}, []api.Tag{books, near, notes, aboutTag, likesTag}},
		{"book", "", nil, []string{"notes.likes.replies.book"}, []api.Tag{books, notes, likesTag}},
	} {
		f := api.Find{Entity: x.entity, Limit: -1, Include: x.include}
		if x.where != "" {
			f.Where = where(t, x.where)
		}
		for _, path := range x.order {
			f.Order = append(f.Order, api.By{Path: path})
		}
		for _, tenant := range []int{0, 8} {
			f.Tenant = tenant
			wanted := clone(x.want)
			for i := range wanted {
				if wanted[i].Entity == "note" {
					wanted[i].Tenant = tenant
				}
			}
			got, err := cache.Tags(m, f)
			must(t, err)
			if !same(got, wanted) {
				t.Error(x, got)
			}
		}
	}
}

// P8.2: a relation that is Back of another one has the tag of the one that has the pairs.
func TestTagsOfPairs(t *testing.T) {
	m := model(t, "entity b", "pairs from a to", "entity a", "pairs to b from", "pairs own a", "entity c of a")
	for path, want := range map[string][]api.Tag{
		"to":      {{Entity: "a"}, {Entity: "b"}, {Entity: "b", Relation: "from"}},
		"to.from": {{Entity: "a"}, {Entity: "b"}, {Entity: "b", Relation: "from"}},
		"own":     {{Entity: "a"}, {Entity: "a", Relation: "own"}},
	} {
		got, err := cache.Tags(m, api.Find{Entity: "c", Limit: -1, Include: []string{path}, Tenant: 3})
		must(t, err)
		expect(t, got, want)
	}
}

// P8.2: the errors of Tags are those of query.Check, where parameters of any number fit everywhere.
func TestErrorsOfTags(t *testing.T) {
	type args struct {
		M api.Model
		F api.Find
	}
	heavy := where(t, "in(1,:id)")
	for range api.MaxWeight {
		heavy[0].Args = append(heavy[0].Args, heavy[0].Args[1])
	}
	tryFaults(t, args{library(t), api.Find{Entity: "note", Where: where(t, "equal(add(?0,1),?7)"), Limit: -1}}, func(x args) api.Errno {
		l, err := cache.Tags(x.M, x.F)
		if err != api.OK && len(l) > 0 {
			t.Error(l)
		}
		return err
	}, []fault[args]{
		{"m", func(x *args) { x.M.Entities[0].Name = "A" }, api.ErrName},
		{"entity", func(x *args) { x.F.Entity = "dragon" }, api.ErrName},
		{"where", func(x *args) { x.F.Where = append(x.F.Where, x.F.Where...) }, api.ErrForm},
		{"where", func(x *args) { x.F.Where[0].Args[0].Args[0].N = -1 }, api.ErrArg},
		{"where", func(x *args) { x.F.Where[0].Args[0].Args[0].Name = "x" }, api.ErrForm},
		{"where", func(x *args) { x.F.Where[0].Args[0].Args[0].Args = where(t, "?0") }, api.ErrForm},
		{"where", func(x *args) { x.F.Where = where(t, "length(?0)") }, api.ErrType},
		{"order", func(x *args) { x.F.Order = []api.By{{Path: "gone"}} }, api.ErrName},
		{"numbers", func(x *args) { x.F.Limit = -2 }, api.ErrArg},
		{"numbers", func(x *args) { x.F.Offset = -1 }, api.ErrArg},
		{"numbers", func(x *args) { x.F.Tenant = -1 }, api.ErrArg},
		{"include", func(x *args) { x.F.Include = []string{"body"} }, api.ErrName},
		{"where", func(x *args) { x.F.Where = heavy }, api.ErrLarge},
	})
	for _, s := range []string{"?0", "null(?59)", "or(?0,less(add(?0,1),:body))", "or(?0,less(length(?0),?0))"} {
		f := api.Find{Entity: "note", Where: where(t, s), Limit: -1}
		if s == "null(?59)" {
			f.Where[0].Args[0].N = 1<<63 - 1
		}
		want(t, second(cache.Tags(library(t), f)), api.OK)
	}
	// What fits with null alone is right, though no kind of the parameter is.
	want(t, query.Check(library(t), api.Find{Entity: "note", Where: where(t, "or(?0,less(length(?0),?0))"), Limit: -1}, []int{api.Bool}), api.ErrType)
}

// second is the error of a call.
func second[T any](_ T, err api.Errno) api.Errno { return err }

// P8.2: a notice touches tags with the same entity and relation, and the same tenant or none.
func TestTouches(t *testing.T) {
	tags := []api.Tag{{Entity: "a"}, {Entity: "a", Tenant: 1}, {Entity: "a", Tenant: 2}, {Entity: "a", Relation: "r"}, {Entity: "a", Relation: "r", Tenant: 1}, {Entity: "b"}, {Entity: "b", Relation: "r", Tenant: 2}, {}}
	touches := func(a, b api.Tag) bool {
		return a.Entity == b.Entity && a.Relation == b.Relation && (a.Tenant == b.Tenant || a.Tenant == 0 || b.Tenant == 0)
	}
	for _, a := range tags {
		for _, b := range tags {
			for _, c := range tags {
				if got := cache.Touches(api.Note{Tags: []api.Tag{a}}, []api.Tag{b, c}); got != (touches(a, b) || touches(a, c)) {
					t.Error(a, b, c, got)
				}
				if got := cache.Touches(api.Note{Tags: []api.Tag{a, b}}, []api.Tag{c}); got != (touches(a, c) || touches(b, c)) {
					t.Error(a, b, c, got)
				}
			}
		}
	}
	if cache.Touches(api.Note{Refs: []api.Ref{{Entity: "a"}}}, tags) || cache.Touches(api.Note{Tags: tags}, nil) {
		t.Error("nothing is told, or asked")
	}
}

package shards_test

import (
	"math/rand"
	"slices"
	"strings"
	"testing"

	"dumbwaiter/api"
	"dumbwaiter/query"
	"dumbwaiter/schema"
	"dumbwaiter/session"
)

// maker makes models, worlds, acts and finds at random.
type maker struct {
	*rand.Rand
	m api.Model
}

// randomly runs a test with several makers, with fewer of them if it must be short.
func randomly(t *testing.T, times int, f func(t *testing.T, r *maker)) {
	t.Helper()
	if testing.Short() {
		times /= 5
	}
	for seed := range times {
		r := &maker{Rand: rand.New(rand.NewSource(int64(seed)))}
		r.m = model(t, r.text()...)
		f(t, r)
		if t.Failed() {
			text, _ := schema.Text(r.m)
			t.Log(text)
			t.Fatal("seed", seed)
		}
	}
}

func (r *maker) chance(n int) bool { return r.Intn(n) == 0 }

func pick[T any](r *maker, l ...T) T { return l[r.Intn(len(l))] }

// text makes the lines of a model of books and of notes of tenants: lines and words that end with ? can be missing, of words with / between them one stands there.
func (r *maker) text() []string {
	var out []string
	for _, line := range []string{
		"entity book apart? version? soft?",
		"field name text null", "field kind text default 's' texts 's' 'l'",
		"one next book refuse/cascade/clear", "many prior book next", "many notes note book", "pairs near book near", "pairs same book", "?unique name next",
		"entity novel of book", "field pages int null", "one after novel clear",
		"entity note apart? version? soft? tenant",
		"field body text null", "field size int default 1", "field loud text = upper(:body)",
		"one book book clear", "one reply note refuse/cascade/clear", "many replies note reply", "pairs likes note liked", "pairs liked note likes", "pairs about book", "?unique body reply", "?index size book",
		"entity memo of note", "field due moment null", "one boss memo clear", "many staff memo boss",
	} {
		line, may := strings.CutPrefix(line, "?")
		if may && r.chance(2) {
			continue
		}
		var words []string
		for _, word := range strings.Split(line, " ") {
			word, may := strings.CutSuffix(word, "?")
			if !may || r.chance(2) {
				words = append(words, pick(r, strings.Split(word, "/")...))
			}
		}
		out = append(out, strings.Join(words, " "))
	}
	return out
}

// entity makes the name of an entity.
func (r *maker) entity() string { return pick(r, "book", "novel", "note", "memo") }

// tenants are those of worlds that are made.
const tenants = 3

// isOf reports whether an entity is another one, or below it.
func (r *maker) isOf(entity, other string) bool {
	l, _ := schema.Family(r.m, other)
	return slices.Contains(l, entity)
}

// value makes a value of a kind, or null.
func (r *maker) value(kind int) api.Value {
	if r.chance(4) {
		return null
	}
	switch kind {
	case api.Bool:
		return api.Value{Kind: api.Bool, N: r.Intn(2)}
	case api.Int:
		return integer(r.Intn(4))
	case api.Text:
		return text(pick(r, "s", "l", "a", "b", "A", "ab"))
	}
	return moment(r.Intn(3) * 40000000)
}

// cast is what a session of acts has: the entity of each handle.
type cast []string

// castOf is what a session has that has begun with beginnings.
func (r *maker) castOf(w api.World, tenant int) cast {
	var c cast
	for _, entity := range []string{"book", "note"} {
		f := all(entity)
		f.Tenant = tenant
		l, _ := query.Objects(r.m, w, f, nil)
		for _, ref := range l {
			c = append(c, ref.Entity)
		}
	}
	return c
}

// beginnings are acts that give handles for all that is seen.
func beginnings() []api.Act {
	return []api.Act{{Kind: api.ActFind, Find: []api.Find{all("book")}}, {Kind: api.ActFind, Find: []api.Find{all("note")}}}
}

// handle makes a handle, mostly of an entity.
func (r *maker) handle(c cast, entity string) int {
	var l []int
	for i, e := range c {
		if r.isOf(e, entity) || r.chance(20) {
			l = append(l, i+1)
		}
	}
	if len(l) == 0 {
		return len(c)
	}
	return pick(r, l...)
}

// acts makes acts for a session of a tenant that sees a world, and a commit behind them.
func (r *maker) acts(w api.World, tenant, count int) []api.Act {
	l, c := beginnings(), r.castOf(w, tenant)
	for range count {
		if len(c) == 0 || r.chance(4) {
			entity := r.entity()
			a := api.Act{Kind: api.ActMake, Entity: entity}
			switch {
			case r.isOf(entity, "note") && tenant == 0:
				a.N = 1 + r.Intn(tenants)
			case r.isOf(entity, "book") && tenant != 0:
				continue
			}
			c = append(c, entity)
			l = append(l, a, api.Act{Kind: api.ActSave, A: len(c)})
		}
		if len(c) > 0 {
			l = append(l, r.act(c))
		}
	}
	return append(l, api.Act{Kind: api.ActCommit})
}

// act makes an act that changes something.
func (r *maker) act(c cast) api.Act {
	h := 1 + r.Intn(len(c))
	entity := c[h-1]
	slots, _ := schema.Slots(r.m, entity)
	relations, _ := schema.Relations(r.m, entity)
	switch n := r.Intn(20); {
	case n < 7:
		s := pick(r, slots...)
		if s.Kind == 0 {
			return api.Act{Kind: api.ActPoint, A: h, Name: s.Name, B: r.handle(c, s.To)}
		}
		return api.Act{Kind: api.ActSet, A: h, Name: s.Name, Value: r.value(s.Kind)}
	case n < 16:
		x := pick(r, relations...)
		kind := pick(r, api.ActLink, api.ActLink, api.ActUnlink)
		if x.Kind == api.RelOne {
			kind = api.ActPoint
		}
		return api.Act{Kind: kind, A: h, Name: x.Name, B: r.handle(c, x.To)}
	case n < 17:
		return api.Act{Kind: api.ActRemove, A: h}
	case n < 18:
		return api.Act{Kind: api.ActFlush}
	case n < 19:
		return api.Act{Kind: api.ActCommit}
	}
	return api.Act{Kind: api.ActAll, A: h, Name: pick(r, relations...).Name}
}

// next makes a world of another one: what acts of a tenant make of it.
func (r *maker) next(w api.World, tenant, count int) api.World {
	_, after, err := session.Direct(r.m, w, tenant, r.Intn(100), nil, r.acts(w, tenant, count))
	if err != api.OK {
		panic(err)
	}
	return after
}

// world makes a world.
func (r *maker) world() api.World {
	var w api.World
	for range 8 {
		w = r.next(w, 0, 6)
	}
	return w
}

// find makes a find, with values of its parameters.
func (r *maker) find(t testing.TB) (api.Find, []api.Value) {
	t.Helper()
	f := api.Find{Entity: r.entity(), Limit: -1, Tenant: max(0, r.Intn(tenants+3)-2), Gone: r.chance(4)}
	conditions := []string{"less(:id,3)", "equal(:name,?0)", "some:notes(equal(:body,'a'))", "some:near(null(:name))", "less(many:prior(),2)", "is:novel()", "equal(:next.name,'a')", "every:notes(is:memo())", "some:next.notes(equal(:book.name,up:name))", "some:notes(some:likes(equal(:size,1)))", "some:same(some:notes())", "null(:next)"}
	orders := []string{"name", "next.name", "id", "next"}
	include := []string{"notes", "next.notes", "near.notes.likes", "same", "prior"}
	if r.isOf(f.Entity, "note") {
		conditions = []string{"less(:id,3)", "equal(:body,?0)", "equal(:book.name,'a')", "some:likes()", "some:about(equal(:name,'b'))", "null(:reply.book)", "equal(:loud,'A')", "is:memo(:reply)", "is:novel(:book)", "less(1,many:reply.liked())", "some:book.notes(less(:tenant,up:tenant))", "every:replies(some:book.same())", "null(:reply)"}
		orders = []string{"body", "book.name", "reply.size", "tenant", "reply.book", "loud"}
		include = []string{"replies.book", "likes.about", "liked", "book.notes", "reply.reply"}
	}
	if !r.chance(4) {
		f.Where = where(t, pick(r, conditions...))
		if r.chance(3) {
			f.Where = where(t, pick(r, "and", "or")+"("+pick(r, conditions...)+","+pick(r, conditions...)+")")
		}
	}
	for range r.Intn(3) {
		f.Order = append(f.Order, api.By{Path: pick(r, orders...), Desc: r.chance(2), Last: r.chance(2)})
	}
	if r.chance(4) {
		f.Limit, f.Offset = r.Intn(3), r.Intn(2)
	}
	for range r.Intn(3) {
		f.Include = append(f.Include, pick(r, include...))
	}
	return f, row(r.value(api.Text))
}

package session_test

import (
	"math/rand"
	"slices"
	"strconv"
	"strings"
	"testing"

	"dumbwaiter/api"
	"dumbwaiter/query"
	"dumbwaiter/schema"
	"dumbwaiter/session"
	"dumbwaiter/value"
)

// maker makes models, hooks and acts at random.
type maker struct {
	*rand.Rand
	m api.Model
}

// makerOf is a maker with a model.
func makerOf(seed int) *maker {
	r := &maker{Rand: rand.New(rand.NewSource(int64(seed)))}
	for {
		m, err := schema.Read(r.model())
		if err == api.OK {
			r.m = m
			return r
		}
	}
}

// randomly runs a test with several makers, with fewer of them if it must be short.
func randomly(t *testing.T, times int, f func(t *testing.T, r *maker)) {
	t.Helper()
	if testing.Short() {
		times /= 5
	}
	for seed := range times {
		t.Run(strconv.Itoa(seed), func(t *testing.T) { f(t, makerOf(seed)) })
		if t.Failed() {
			return
		}
	}
}

func (r *maker) chance(n int) bool { return r.Intn(n) == 0 }

func pick[T any](r *maker, l ...T) T { return l[r.Intn(len(l))] }

// model makes the text of a model that is often right: of persons and workers, houses, and pets and dogs. A word that ends with ? can be missing, of words with / between them one stands there.
func (r *maker) model() string {
	text := lines(
		"embed place", "field city text null", "field zip int null default 7",
		"entity person version? soft? tenant?",
		"field name text default 'nn'", "field age int null", "field home embed place", "field size text default 's' texts 's' 'l'", "field label text = concat(:name,:size)",
		"one mate person refuse/cascade/clear save?", "many fans person mate save?", "many pets pet owner save?", "many dogs dog owner save?", "pairs friends person friends save?", "pairs knows person save?",
		"entity worker of person",
		"field pay int default 5",
		"one house house need? refuse/cascade/clear save?", "one boss worker refuse/cascade/clear", "many staff worker boss save?",
		"entity house apart? version? soft? tenant?",
		"field name text null",
		"many workers worker house save?", "pairs guests person visits save?", "one twin house clear",
		"entity pet apart? version? soft? tenant?",
		"field name text null",
		"one owner person need? refuse/cascade/clear save?", "unique? name", "index? owner",
		"entity dog of pet",
		"field good bool default true", "field bark text default 'wuff'",
		"one rival pet refuse/cascade/clear save?", "many rivals dog rival", "pairs hunts house save?", "unique? bark rival",
	)
	var out []string
	for _, line := range strings.Split(text, "\n") {
		var words []string
		for _, word := range strings.Split(line, " ") {
			if x, may := strings.CutSuffix(word, "?"); may {
				if r.chance(2) {
					if len(words) == 0 {
						break
					}
					continue
				}
				word = x
			}
			words = append(words, pick(r, strings.Split(word, "/")...))
		}
		if len(words) > 0 && words[0] != "" {
			out = append(out, strings.Join(words, " "))
		}
	}
	if text := lines(out...); !strings.Contains(text, "guests person visits") {
		return text
	}
	// The relation back can only be there if both families have a tenant, or none has.
	text = lines(out...)
	if r.chance(2) {
		return strings.Replace(text, "guests person visits", "guests person", 1)
	}
	return strings.Replace(text, "entity worker of person", "pairs visits house guests\nentity worker of person", 1)
}

// entity makes the name of an entity.
func (r *maker) entity() string { return r.m.Entities[r.Intn(len(r.m.Entities))].Name }

// valueFor makes a value for a slot, which is seldom null if it must not be.
func (r *maker) valueFor(s api.Slot) api.Value {
	if s.Null && r.chance(3) || r.chance(50) {
		return null
	}
	return r.value(s.Kind)
}

// value makes a value of a kind.
func (r *maker) value(kind int) api.Value {
	switch kind {
	case api.Bool:
		return boolean(r.Intn(2))
	case api.Int:
		return integer(r.Intn(4))
	}
	return text(pick(r, "s", "l", "a", "b", "ab"))
}

// slots are the slots of an entity: values, or references.
func (r *maker) slots(entity string, ones bool) []api.Slot {
	l, _ := schema.Slots(r.m, entity)
	return slices.DeleteFunc(l, func(s api.Slot) bool { return (s.Kind == 0) != ones })
}

// lists are the RelManys and RelPairs of an entity.
func (r *maker) lists(entity string) []api.Relation {
	l, _ := schema.Relations(r.m, entity)
	return slices.DeleteFunc(l, func(x api.Relation) bool { return x.Kind == api.RelOne })
}

// known is what a maker knows of a session for which it makes acts.
type known interface {
	count() int // of handles
	stateOf(h int) int
	entityOf(h int) string // of one that is not in StatePast
	tenantOf() int
}

// live counts the objects that are not in StatePast.
func (r *maker) live(n known) int {
	count := 0
	for h := 1; h <= n.count(); h++ {
		if n.stateOf(h) != api.StatePast {
			count++
		}
	}
	return count
}

// next makes an act behind one with an error: what cannot be flushed is often given up.
func (r *maker) next(n known, before api.Act, err api.Errno) api.Act {
	flushes := before.Kind == api.ActFlush || before.Kind == api.ActCommit || before.Kind == api.ActFind
	if flushes && err != api.OK && err != api.ErrTenant && r.chance(3) {
		return api.Act{Kind: api.ActRollback}
	}
	return r.act(n)
}

// handle makes a handle; usually one whose object is of an entity, if there is one, and in a state that is not StatePast.
func (r *maker) handle(n known, entity string) int {
	if r.chance(40) {
		return r.Intn(n.count()+3) - 1
	}
	var l []int
	for h := 1; h <= n.count(); h++ {
		if n.stateOf(h) != api.StatePast && (entity == "" || r.isOf(n.entityOf(h), entity)) {
			l = append(l, h)
		}
	}
	if len(l) == 0 {
		return n.count()
	}
	return pick(r, l...)
}

// isOf reports whether an entity is another one, or below it.
func (r *maker) isOf(entity, other string) bool {
	l, _ := schema.Family(r.m, other)
	return slices.Contains(l, entity)
}

// entityOf is the entity of a handle, if there is one.
func (r *maker) entityOf(n known, h int) string {
	if n.stateOf(h) == 0 || n.stateOf(h) == api.StatePast {
		return "person"
	}
	return n.entityOf(h)
}

// path makes a path to a value.
func (r *maker) path(entity string) string {
	var names []string
	for {
		ones := r.slots(entity, true)
		if len(ones) == 0 || r.chance(2) || len(names) > 3 {
			break
		}
		one := pick(r, ones...)
		names, entity = append(names, one.Name), one.To
		if r.chance(4) {
			return strings.Join(names, ".")
		}
	}
	last := []string{"id", "tenant", "version", "gone", "label", "nothing"}
	for _, s := range r.slots(entity, false) {
		last = append(last, s.Name, s.Name)
	}
	return strings.Join(append(names, pick(r, last...)), ".")
}

// find makes a find.
func (r *maker) find() (api.Find, []api.Value) {
	f := api.Find{Entity: r.entity(), Limit: -1}
	var params []api.Value
	if r.chance(3) {
		text := pick(r, "less(:id,3)", "or(null(:name),equal(:name,?0))", "null(?0)", "some:pets()", "equal(:owner.name,'nn')", "is:dog()", "equal(:name,?1)")
		e, err := query.ExprRead(text)
		if err != api.OK {
			panic(text)
		}
		f.Where = []api.Expr{e}
		params = []api.Value{pick(r, null, r.value(api.Text))}
	}
	if r.chance(3) {
		f.Order = []api.By{{Path: pick(r, "name", "id"), Desc: r.chance(2)}}
	}
	if r.chance(4) {
		f.Limit, f.Offset = r.Intn(4), r.Intn(2)
	}
	f.Tenant = pick(r, 0, 0, 0, 0, 0, 0, 1, 2)
	f.Gone = r.chance(30)
	for range r.Intn(3) {
		f.Include = append(f.Include, r.inclusion(f.Entity))
	}
	return f, params
}

// inclusion makes a path of relations.
func (r *maker) inclusion(entity string) string {
	var names []string
	for len(names) == 0 || r.chance(2) && len(names) < 3 {
		l, _ := schema.Relations(r.m, entity)
		if len(l) == 0 {
			break
		}
		x := pick(r, l...)
		names, entity = append(names, x.Name), x.To
	}
	return strings.Join(names, ".")
}

// act makes an act for what a session has.
func (r *maker) act(n known) api.Act {
	if live := r.live(n); live < 3 || live < 8 && r.chance(4) {
		if r.chance(2) {
			return api.Act{Kind: api.ActFind, Find: []api.Find{all(r.entity())}}
		}
		return r.made(n)
	}
	h := r.handle(n, "")
	entity := r.entityOf(n, h)
	switch k := r.Intn(100); {
	case k < 8:
		return r.made(n)
	case k < 18:
		return api.Act{Kind: api.ActSave, A: h}
	case k < 24:
		return api.Act{Kind: api.ActGet, Entity: r.entity(), N: r.Intn(5)}
	case k < 30:
		f, params := r.find()
		return api.Act{Kind: api.ActFind, Find: []api.Find{f}, Params: params}
	case k < 38:
		return api.Act{Kind: api.ActValue, A: h, Name: r.path(entity)}
	case k < 48:
		s := pick(r, r.slots(entity, false)...)
		return api.Act{Kind: api.ActSet, A: h, Name: s.Name, Value: r.valueFor(s)}
	case k < 54:
		return api.Act{Kind: api.ActOne, A: h, Name: r.one(entity).Name}
	case k < 66:
		one := r.one(entity)
		to := 0
		if !r.chance(5) {
			to = r.handle(n, one.To)
		}
		return api.Act{Kind: api.ActPoint, A: h, Name: one.Name, B: to}
	case k < 72:
		return api.Act{Kind: api.ActAll, A: h, Name: r.list(entity).Name}
	case k < 80:
		x := r.list(entity)
		return api.Act{Kind: pick(r, api.ActLink, api.ActLink, api.ActUnlink), A: h, Name: x.Name, B: r.handle(n, x.To)}
	case k < 85:
		return api.Act{Kind: api.ActRemove, A: h}
	case k < 87:
		return api.Act{Kind: api.ActHold, A: h}
	case k < 93:
		return api.Act{Kind: api.ActFlush}
	case k < 98:
		return api.Act{Kind: api.ActCommit}
	case k < 99:
		return api.Act{Kind: api.ActRollback}
	}
	return pick(r, api.Act{Kind: 17}, api.Act{Kind: api.ActFlush, A: 1}, api.Act{Kind: api.ActSave, A: h, Name: "x"}, api.Act{Kind: api.ActFind}, api.Act{Kind: api.ActMake, Entity: "dragon"}, api.Act{Kind: api.ActGet, Entity: "dragon", N: 1})
}

// made makes an act that makes an object, usually one that the session can make.
func (r *maker) made(n known) api.Act {
	a := api.Act{Kind: api.ActMake, Entity: r.entity()}
	root, _ := schema.Root(r.m, a.Entity)
	has := slices.ContainsFunc(r.m.Entities, func(e api.Entity) bool { return e.Name == root && e.Tenant })
	switch {
	case r.chance(30):
		a.N = pick(r, 0, 1, 9, -1)
	case n.tenantOf() != 0 && !has:
		return r.made(n)
	case n.tenantOf() == 0 && has:
		a.N = 1 + r.Intn(2)
	}
	return a
}

// session makes the tenant of a session: 0 if no family has a tenant.
func (r *maker) session() int {
	if !slices.ContainsFunc(r.m.Entities, func(e api.Entity) bool { return e.Tenant }) {
		return 0
	}
	return pick(r, 0, 1, 2)
}

func (r *maker) one(entity string) api.Slot {
	if l := r.slots(entity, true); len(l) > 0 && !r.chance(30) {
		return pick(r, l...)
	}
	return api.Slot{Name: "nothing"}
}

func (r *maker) list(entity string) api.Relation {
	if l := r.lists(entity); len(l) > 0 && !r.chance(30) {
		return pick(r, l...)
	}
	return api.Relation{Name: "mate"}
}

// world makes a world: objects that refer to others.
func (r *maker) world() api.World {
	n := newNaive(r.m, api.World{}, 0, 50, api.LoadLazy, nil)
	for range 15 {
		out := n.play(r.made(n))
		for _, h := range out.Handles {
			for _, one := range r.slots(n.entityOf(h), true) {
				n.play(api.Act{Kind: api.ActPoint, A: h, Name: one.Name, B: r.handle(n, one.To)})
			}
			for _, x := range r.lists(n.entityOf(h)) {
				n.play(api.Act{Kind: api.ActLink, A: h, Name: x.Name, B: r.handle(n, x.To)})
			}
			s := pick(r, r.slots(n.entityOf(h), false)...)
			n.play(api.Act{Kind: api.ActSet, A: h, Name: s.Name, Value: r.valueFor(s)})
			n.play(api.Act{Kind: api.ActSave, A: h})
		}
		if n.play(api.Act{Kind: api.ActCommit}).Error != api.OK {
			n.play(api.Act{Kind: api.ActRollback})
		}
	}
	return n.kept
}

// hooks makes hooks that are right.
func (r *maker) hooks() []api.Hook {
	var l []api.Hook
	for range r.Intn(4) {
		h := api.Hook{Entity: r.entity(), When: pick(r, api.HookSave, api.HookSave, api.HookRemove)}
		if h.When == api.HookSave && !r.chance(3) {
			s := pick(r, r.slots(h.Entity, false)...)
			h.Slot = s.Name
			h.Set = []api.Expr{r.expr(s.Kind)}
		}
		if r.chance(2) {
			h.Refuse = []api.Expr{r.expr(api.Bool)}
		}
		if session.CheckHooks(r.m, []api.Hook{h}) == api.OK {
			l = append(l, h)
		}
	}
	return l
}

// expr makes an expression of a kind over what hooks can name, which can be wrong.
func (r *maker) expr(kind int) api.Expr {
	texts := map[int][]string{
		api.Bool: {"null(:name)", "equal(:id,4)", "equal(:version,3)", "equal(:name,'b')", "false", "equal(:good,false)"},
		api.Int:  {"add(:id,1)", "length(:name)", ":version", ":tenant", "null", "add(:age,:pay)"},
		api.Text: {"'s'", ":name", "upper(:name)", "cast.3(:id)", "concat(:name,'x')", "null"},
	}
	e, err := value.ExprRead(pick(r, texts[kind]...))
	if err != api.OK {
		panic(strconv.Itoa(kind))
	}
	return e
}

package shards_test

import (
	"slices"
	"strconv"
	"strings"
	"testing"

	"dumbwaiter/api"
	"dumbwaiter/schema"
	"dumbwaiter/shards"
)

// sown returns a world, which must be right, and how many objects of each entity it has.
func sown(t testing.TB, m api.Model, seed, many int) (api.World, []int) {
	t.Helper()
	w, err := shards.Sow(m, seed, many)
	must(t, err)
	must(t, schema.CheckWorld(m, w))
	var counts []int
	for _, e := range m.Entities {
		perTenant := map[int]int{}
		for _, o := range w.Objects {
			if o.Entity == e.Name {
				perTenant[o.Tenant]++
			}
		}
		n := perTenant[0] + perTenant[1] + perTenant[2]
		if perTenant[0] == 0 && (perTenant[1] != (n+1)/2 || perTenant[2] != n/2) || perTenant[0] > 0 && perTenant[0] != n {
			t.Error(e.Name, "not in turn", perTenant)
		}
		counts = append(counts, n)
	}
	return w, counts
}

// P9.15: how many objects there are, where Need, permitted texts and unique values matter.
func TestSow(t *testing.T) {
	pair := []string{"unique a b", "unique a c", "unique b c"}
	pairs := append(slices.Clone(pair), "unique a d", "unique b d", "unique c d")
	texts := func(names, values string, lists []string) []string {
		l := []string{"entity x"}
		for _, name := range strings.Fields(names) {
			l = append(l, "field "+name+" text default '"+values[:1]+"' texts '"+strings.Join(strings.Split(values, ""), "' '")+"'")
		}
		return append(l, lists...)
	}
	for i, x := range []struct {
		lines []string
		many  int
		want  []int
	}{
		{[]string{"entity x"}, 50, []int{50}},
		{[]string{"entity x"}, 0, []int{0}},
		{[]string{"entity x", "field a bool", "field b int", "field c text", "field d moment", "one e x refuse", "entity y of x", "field f int null"}, 7, []int{7, 7}},
		{[]string{"entity x tenant", "field a int", "entity y of x"}, 3, []int{3, 3}},
		{[]string{"entity x tenant"}, 1, []int{1}},
		// Need.
		{[]string{"entity x", "one a x need refuse"}, 5, []int{5}},
		{[]string{"entity x", "one a y need refuse", "entity y", "one b x need refuse"}, 5, []int{5, 5}},
		{[]string{"entity x tenant", "one a y need refuse", "entity y tenant", "one b z need refuse", "entity z"}, 5, []int{5, 5, 5}},
		{[]string{"entity x apart", "one a y need refuse", "entity y of x"}, 5, []int{5, 5}},
		// Unique values.
		{[]string{"entity x", "field a int", "unique a"}, 50, []int{50}},
		{[]string{"entity x", "field a text", "field b moment", "unique a", "unique b", "unique a b"}, 50, []int{50}},
		{[]string{"entity x", "field a bool", "unique a"}, 50, []int{2}},
		{[]string{"entity x tenant", "field a bool", "unique a"}, 50, []int{4}},
		{[]string{"entity x tenant", "field a bool", "unique a"}, 3, []int{3}},
		{[]string{"entity x", "field a bool null", "unique a"}, 50, []int{50}},
		{[]string{"entity x", "field a bool", "field b int", "unique a b"}, 50, []int{50}},
		{[]string{"entity x", "field a bool", "field b text null texts 'p' 'q'", "unique a b"}, 50, []int{50}},
		{[]string{"entity x", "field a bool", "field b text default 'p' texts 'p' 'q' 'r'", "unique a b"}, 50, []int{6}},
		{[]string{"entity x", "field a bool", "field b text default 'p' texts 'p' 'q' 'r'", "unique a", "unique b"}, 50, []int{2}},
		{[]string{"entity x", "field a bool", "field b text default 'p' texts 'p' 'q' 'r'", "unique a b"}, 4, []int{4}},
		{[]string{"embed e", "field a bool", "field b text default 'p' texts 'p' 'q'", "entity x", "field c embed e", "unique c.a c.b"}, 50, []int{4}},
		// Unique references.
		{[]string{"entity x", "one a x need refuse", "unique a"}, 50, []int{50}},
		{[]string{"entity x", "field a bool", "unique a", "entity y", "one b x need refuse", "unique b"}, 50, []int{2, 2}},
		{[]string{"entity y", "one b x need refuse", "unique b", "entity x", "field a bool", "unique a"}, 50, []int{2, 2}},
		{[]string{"entity x tenant", "field a bool", "unique a", "entity y tenant", "field c bool", "one b x need refuse", "unique b c"}, 50, []int{4, 8}},
		{[]string{"entity x", "field a bool", "unique a", "entity y tenant", "one b x need refuse", "unique b"}, 50, []int{2, 4}},
		{[]string{"entity x", "field a bool", "unique a", "entity y", "one b x refuse", "unique b"}, 50, []int{2, 50}},
		// Entities below share unique values.
		{[]string{"entity x", "field a text default 'p' texts 'p' 'q' 'r'", "unique a", "entity y of x", "entity z of y"}, 2, []int{2, 1, 0}},
		{[]string{"entity x", "field a text default 'p' texts 'p' 'q' 'r'", "unique a", "entity y of x", "entity z", "one b y need refuse"}, 3, []int{3, 0, 0}},
		{[]string{"entity z", "one b y need refuse", "entity x", "field a text default 'p' texts 'p' 'q' 'r'", "unique a", "entity y of x"}, 3, []int{3, 2, 1}},
		{[]string{"entity x", "field a text default 'p' texts 'p'", "one b y need refuse", "unique a", "entity y of x"}, 3, []int{0, 1}},
		{[]string{"entity w", "one b y need refuse", "one c z need refuse", "entity x", "field a text default 'p' texts 'p'", "unique a", "entity y of x", "entity z of x"}, 3, []int{0, 1, 0, 0}},
		{[]string{"entity w", "one b x need refuse", "unique b", "entity x", "field a text default 'p' texts 'p' 'q' 'r'", "unique a", "entity y of x"}, 3, []int{3, 3, 0}},
		{[]string{"entity w", "one b x need refuse", "unique b", "entity x", "entity y of x"}, 3, []int{3, 3, 3}},
		{[]string{"entity x tenant", "field a text default 'p' texts 'p' 'q' 'r'", "unique a", "entity y of x"}, 3, []int{3, 2}},
		{[]string{"entity v", "field a bool", "unique a", "entity u of v", "entity z", "one b y need refuse", "entity x", "field a text default 'p' texts 'p' 'q' 'r'", "unique a", "entity y of x"}, 50, []int{2, 0, 50, 2, 1}},
		// Several lists with the same slots.
		{texts("a b c", "pqrst", pair), 50, []int{25}},
		{texts("a b c", "pqrstuvw", pair), 50, []int{50}},
		{texts("a b c d", "pq", pairs), 50, []int{2}},
		{texts("a b c d", "pqr", pairs), 50, []int{9}},
		{texts("a b c d", "pqrst", pairs), 50, []int{25}},
		{append(texts("a b", "pqr", nil), "field c bool", "unique a c", "unique b c"), 50, []int{6}},
		{append(texts("a b", "pqr", nil), "field c bool", "unique a b", "unique b c", "unique a c"), 50, []int{6}},
	} {
		m := model(t, x.lines...)
		for seed := range 3 {
			if _, counts := sown(t, m, seed, x.many); !slices.Equal(counts, x.want) {
				t.Error(i, x.lines, counts)
			}
		}
	}
}

// P9.15: errors of Sow, in their order.
func TestSowErrors(t *testing.T) {
	type args struct {
		M          api.Model
		Seed, Many int
	}
	tryFaults(t, args{library(t), 1, 50}, func(x args) api.Errno {
		w, err := shards.Sow(x.M, x.Seed, x.Many)
		if err != api.OK {
			expect(t, w, api.World{})
		}
		return err
	}, []fault[args]{
		{"model", func(x *args) { x.M.Entities[0].Name = "" }, api.ErrName},
		{"model", func(x *args) { x.M.Entities[1].Parent = "x" }, api.ErrName},
		{"many", func(x *args) { x.Many = -1 }, api.ErrArg},
		{"many", func(x *args) { x.Many = 51 }, api.ErrArg},
		{"many", func(x *args) { x.Many = -1 << 63 }, api.ErrArg},
	})
}

// P9.15: seeds of any size give worlds, for the same one always the same; other ones mostly give others.
func TestSeeds(t *testing.T) {
	m := zoo(t)
	var worlds []api.World
	for _, seed := range []int{0, 1, -1, 7, 1<<63 - 1, -1 << 63} {
		w, counts := sown(t, m, seed, 9)
		expect(t, counts, []int{9, 9, 9, 9})
		again, err := shards.Sow(m, seed, 9)
		must(t, err)
		expect(t, again, w)
		if slices.ContainsFunc(worlds, func(x api.World) bool { return same(x, w) }) {
			t.Error("the same world for another seed")
		}
		worlds = append(worlds, w)
	}
}

// P9.15: without unique values there are as many objects as are wanted, whatever else the model has.
func TestRandomSow(t *testing.T) {
	randomly(t, 100, func(t *testing.T, r *maker) {
		many := r.Intn(51)
		w, counts := sown(t, r.m, r.Int(), many)
		expect(t, counts, slices.Repeat([]int{many}, len(r.m.Entities)))
		isVersion := func(o api.Object) bool {
			root, _ := schema.Root(r.m, o.Entity)
			e := r.m.Entities[slices.IndexFunc(r.m.Entities, func(e api.Entity) bool { return e.Name == root })]
			return e.Version == (o.Version == 1) && o.Gone == null
		}
		for _, o := range w.Objects {
			if !isVersion(o) {
				t.Error(o)
			}
		}
	})
}

// tight makes a small model in which much is impossible.
func (r *maker) tight() api.Model {
	for {
		var l []string
		var own [][]string
		entities := []string{"x", "y", "z"}[:2+r.Intn(2)]
		slot := 0
		for i, name := range entities {
			line := "entity " + name
			switch {
			case i > 0 && r.chance(2):
				line += " of " + pick(r, entities[:i]...)
			case r.chance(3):
				line += " tenant"
			}
			l = append(l, line)
			own = append(own, nil)
			for range r.Intn(4) {
				slot++
				s := "s" + strconv.Itoa(slot)
				own[i] = append(own[i], s)
				l = append(l, pick(r, "field "+s+" bool", "field "+s+" text default 'p' texts 'p'", "field "+s+" text default 'p' texts 'p' 'q'", "field "+s+" bool null", "field "+s+" int"))
			}
			for range r.Intn(3) {
				slot++
				s := "s" + strconv.Itoa(slot)
				own[i] = append(own[i], s)
				l = append(l, "one "+s+" "+pick(r, entities...)+pick(r, " need refuse", " need refuse", " refuse"))
			}
			for range r.Intn(4) {
				if len(own[i]) > 0 {
					var list []string
					for range 1 + r.Intn(3) {
						if other := pick(r, own[i]...); !slices.Contains(list, other) {
							list = append(list, other)
						}
					}
					l = append(l, "unique "+strings.Join(list, " "))
				}
			}
		}
		if m, err := schema.Read(lines(l...)); err == api.OK {
			return m
		}
	}
}

// plan is how many objects of each entity there are to be, and those that stand already.
type plan struct {
	m     api.Model
	names []api.Object // all objects, without values
	slots map[string][]api.Slot
	below map[string][]string
	rows  []map[string]string // of those that have got values
	tries int
}

// maxTries bounds the search.
const maxTries = 3000

// planFor makes the objects of a plan.
func planFor(m api.Model, counts []int) *plan {
	p := &plan{m: m, slots: map[string][]api.Slot{}, below: map[string][]string{}}
	ids := 0
	for i, e := range m.Entities {
		p.slots[e.Name], _ = schema.Slots(m, e.Name)
		p.below[e.Name], _ = schema.Family(m, e.Name)
		for n := range counts[i] {
			ids++
			o := api.Object{Entity: e.Name, ID: ids}
			if root, _ := schema.Root(m, e.Name); m.Entities[slices.IndexFunc(m.Entities, func(e api.Entity) bool { return e.Name == root })].Tenant {
				o.Tenant = 1 + n%2
			}
			p.names = append(p.names, o)
		}
	}
	return p
}

// choices returns the values of a slot of an object: one of them, if there can be null, or another one for each object.
func (p *plan) choices(o api.Object, s api.Slot) []string {
	switch {
	case s.Null:
		return []string{"null"}
	case s.Kind == 0:
		var l []string
		for _, to := range p.names {
			if slices.Contains(p.below[s.To], to.Entity) && (to.Tenant == 0 || to.Tenant == o.Tenant) {
				l = append(l, strconv.Itoa(to.ID))
			}
		}
		return l
	case s.Kind == api.Bool:
		return []string{"true", "false"}
	case s.Kind == api.Int:
		return []string{"null"} // it is no matter, like null
	}
	for _, e := range p.m.Entities {
		for _, f := range e.Fields {
			if f.Name == s.Name {
				return f.Texts
			}
		}
	}
	return nil
}

// fits reports whether the last object that has got values is unlike all others.
func (p *plan) fits() bool {
	i := len(p.rows) - 1
	for _, e := range p.m.Entities {
		for _, list := range e.Uniques {
			for k := range i {
				both := slices.Contains(p.below[e.Name], p.names[i].Entity) && slices.Contains(p.below[e.Name], p.names[k].Entity) && p.names[i].Tenant == p.names[k].Tenant
				if both && !slices.ContainsFunc(list, func(s string) bool { return p.rows[i][s] == "null" || p.rows[i][s] != p.rows[k][s] }) {
					return false
				}
			}
		}
	}
	return true
}

// can reports whether the rest of the objects can get values.
func (p *plan) can() bool {
	p.tries++
	if len(p.rows) == len(p.names) || p.tries > maxTries {
		return len(p.rows) == len(p.names)
	}
	o := p.names[len(p.rows)]
	p.rows = append(p.rows, map[string]string{})
	defer func() { p.rows = p.rows[:len(p.rows)-1] }()
	return p.fill(o, p.slots[o.Entity])
}

// fill reports whether an object can get values for some slots, and the rest of the objects theirs.
func (p *plan) fill(o api.Object, slots []api.Slot) bool {
	if len(slots) == 0 {
		return p.fits() && p.can()
	}
	isTight := slices.ContainsFunc(p.m.Entities, func(e api.Entity) bool {
		return slices.ContainsFunc(e.Uniques, func(l []string) bool {
			return slices.Contains(l, slots[0].Name) && !slices.ContainsFunc(p.slots[e.Name], func(s api.Slot) bool {
				return slices.Contains(l, s.Name) && slices.Equal(p.choices(o, s), []string{"null"})
			})
		})
	})
	for _, v := range p.choices(o, slots[0]) {
		p.rows[len(p.rows)-1][slots[0].Name] = v
		if p.fill(o, slots[1:]) {
			return true
		}
		if !isTight {
			break
		}
	}
	return false
}

// P9.15: there are as many objects as there can be, first of the entities that come first.
func TestTightSow(t *testing.T) {
	fewer, left := 0, 0
	randomly(t, 600, func(t *testing.T, r *maker) {
		r.m = r.tight()
		many := 1 + r.Intn(4)
		_, got := sown(t, r.m, r.Int(), many)
		counts := slices.Repeat([]int{many}, len(r.m.Entities))
		for p := planFor(r.m, counts); !p.can(); p = planFor(r.m, counts) {
			if p.tries > maxTries {
				left++ // too many to try all of them
				return
			}
			// The next list of numbers, from the greatest one down.
			i := len(counts) - 1
			for counts[i] == 0 {
				counts[i] = many
				i--
			}
			counts[i]--
		}
		if !slices.Equal(got, slices.Repeat([]int{many}, len(counts))) {
			fewer++
		}
		expect(t, got, counts)
	})
	if !testing.Short() && (fewer < 100 || left > 200) {
		t.Error(fewer, left)
	}
}

package session_test

import (
	"testing"

	"dumbwaiter/api"
)

// village is a model of streets, houses, persons and pets.
func village(t testing.TB) api.Model {
	return model(t,
		"entity street", "field name text null", "many houses house street",
		"entity house soft", "field name text null", "one street street clear",
		"entity person", "field name text null", "one house house clear", "many pets pet owner", "pairs friends person friends",
		"entity boss of person", "one car street clear",
		"entity pet", "field name text null", "one owner person clear",
	)
}

// homes is a world of the village: the persons 1 to 4 live in the houses 1, 2, 2 and 4 (which is gone), 5, a boss, nowhere; the houses 1 and 2 are in the streets 1 and 2; pets 1 to 3 belong to the persons 1, 1 and 2.
func homes() api.World {
	return api.World{
		Objects: []api.Object{
			{Entity: "street", ID: 1, Values: row(null)}, {Entity: "street", ID: 2, Values: row(null)},
			{Entity: "house", ID: 1, Values: row(text("one")), Ones: []int{1}}, {Entity: "house", ID: 2, Values: row(null), Ones: []int{2}}, {Entity: "house", ID: 3, Values: row(null), Ones: []int{0}}, {Entity: "house", ID: 4, Gone: moment(1), Values: row(null), Ones: []int{0}},
			{Entity: "person", ID: 1, Values: row(null), Ones: []int{1}}, {Entity: "person", ID: 2, Values: row(null), Ones: []int{2}}, {Entity: "person", ID: 3, Values: row(null), Ones: []int{2}}, {Entity: "person", ID: 4, Values: row(null), Ones: []int{4}}, {Entity: "boss", ID: 5, Values: row(null), Ones: []int{0, 2}},
			{Entity: "pet", ID: 1, Values: row(null), Ones: []int{1}}, {Entity: "pet", ID: 2, Values: row(null), Ones: []int{1}}, {Entity: "pet", ID: 3, Values: row(null), Ones: []int{2}},
		},
		Pairs: []api.PairOf{{Entity: "person", Relation: "friends", Left: 1, Right: 2}, {Entity: "person", Relation: "friends", Left: 3, Right: 3}},
	}
}

// settle returns a session on a store with the homes.
func settle(t testing.TB, way int) user {
	t.Helper()
	return use(t, village(t), storeOf(t, village(t), homes()), way)
}

// costs checks how many queries some calls have executed.
func (u user) costs(want int, calls func()) {
	u.Helper()
	before := u.Statements()
	calls()
	if got := u.Statements() - before; got != want {
		u.Error("queries", got, "want", want)
	}
}

// P7.12: what is counted in all ways.
func TestQueries(t *testing.T) {
	for way := api.LoadLazy; way <= api.LoadEager; way++ {
		u := settle(t, way)
		var one, two int
		missing := func(entity string, id int) {
			t.Helper()
			_, err := u.Get(entity, id)
			want(t, err, api.ErrNone)
		}
		u.costs(1, func() { one = u.get("person", 1) })
		u.costs(0, func() { u.get("person", 1) })
		u.costs(0, func() { missing("boss", 1) })
		u.costs(1, func() { missing("person", 9) })
		u.costs(0, func() { missing("person", 9); missing("boss", 9) })
		u.costs(1, func() { missing("house", 4) })
		u.costs(0, func() { missing("house", 4) })
		u.costs(1, func() { missing("house", 0) })
		u.costs(0, func() { u.value(one, "id"); u.value(one, "name") })
		u.costs(1, func() { expect(t, u.value(one, "house"), integer(1)) })
		u.costs(0, func() { u.value(one, "house.name"); u.one(one, "house") })
		u.costs(1, func() { expect(t, u.value(one, "house.street.name"), null) })
		u.costs(0, func() { u.value(one, "house.street"); u.get("street", 1) })
		u.costs(1, func() { two = u.get("person", 2) })
		u.costs(2, func() { u.value(two, "house.street.name") })
		u.costs(1, func() { expect(t, u.one(u.get("person", 4), "house"), 0) })
		u.costs(0, func() { u.value(u.get("person", 4), "house.street") })
		// Lists, with what is in them.
		u.costs(1, func() { expect(t, len(u.all(one, "pets")), 2) })
		u.costs(0, func() { u.all(one, "pets"); u.get("pet", 2) })
		u.costs(1, func() { expect(t, u.all(one, "friends"), []int{two}) })
		u.costs(1, func() { expect(t, u.all(two, "pets"), []int{u.get("pet", 3)}) })
		// Finds, whatever they find and was loaded.
		u.costs(1, func() { u.find(all("person")) })
		u.costs(1, func() { u.find(all("person")) })
		u.costs(1, func() { u.find(api.Find{Entity: "boss", Limit: 0}) })
		// Flushes and holding cost nothing; what was written is loaded, also if it was not.
		kid := u.made("person", 1)[0]
		u.costs(0, func() {
			must(t, u.Save(kid), u.Hold(one), u.Flush(), u.Remove(u.get("house", 1)), u.Flush())
			u.get("person", 6)
		})
	}
}

// P7.12: what is loaded stays so until a commit, or a rollback.
func TestLoaded(t *testing.T) {
	u := settle(t, api.LoadLazy)
	one := u.get("person", 1)
	u.value(one, "house.name")
	_, err := u.Get("pet", 9)
	want(t, err, api.ErrNone)
	must(t, u.Commit())
	u.costs(0, func() { u.get("person", 1) })
	u.costs(1, func() { u.value(one, "house.name") })
	u.costs(1, func() { u.Get("pet", 9) })
	house := u.one(one, "house")
	u.Rollback()
	u.costs(1, func() { one = u.get("person", 1) })
	u.costs(1, func() { house = u.one(one, "house") })
	must(t, u.Commit())
	u.costs(0, func() { u.value(one, "house.name") })
	// What a removal has changed is written, what went is not loaded.
	street := u.get("street", 1)
	must(t, u.Remove(house), u.Remove(street), u.Flush())
	u.costs(1, func() { u.Get("house", 1) })
	u.costs(1, func() { u.Get("street", 1) })
	must(t, u.Remove(u.get("street", 2)), u.Flush())
	u.costs(0, func() { u.get("house", 2); u.get("person", 5) })
	u.costs(1, func() { u.get("house", 3) })
	// What comes into being where nothing was is loaded.
	u.costs(1, func() { u.Get("pet", 4) })
	pet := u.made("pet", 1)[0]
	must(t, u.Save(pet), u.Flush())
	u.costs(0, func() { expect(t, u.get("pet", 4), pet) })
}

// P7.12: with LoadBatch references and lists are loaded for all objects of a find.
func TestBatch(t *testing.T) {
	u := settle(t, api.LoadBatch)
	l := u.find(all("person"))
	u.costs(1, func() { u.value(l[0], "house.name") })
	u.costs(0, func() {
		for _, h := range l {
			u.value(h, "house")
			u.one(h, "house")
		}
	})
	// What they lead to was returned by One, and not by a find.
	u.costs(1, func() { u.value(l[0], "house.street.name") })
	u.costs(1, func() { u.value(l[1], "house.street.name") })
	u.costs(0, func() { u.value(l[2], "house.street.name") })
	u.costs(0, func() { u.one(l[4], "car") })
	u.costs(1, func() { u.all(l[4], "pets") })
	u.costs(0, func() { u.all(l[0], "pets"); u.all(l[1], "pets") })
	u.costs(1, func() { u.all(l[2], "friends") })
	u.costs(0, func() { expect(t, u.all(l[0], "friends"), []int{l[1]}) })
	u.costs(0, func() { u.get("pet", 1); u.get("pet", 3) })

	// A query is made if something of what it loads is not loaded.
	u = settle(t, api.LoadBatch)
	l = u.find(all("person"))
	u.costs(1, func() { expect(t, u.one(l[4], "house"), 0) })
	u.costs(0, func() { u.one(l[0], "house") })
	must(t, u.Commit())
	u.costs(1, func() { u.one(l[1], "house") })
	u.costs(0, func() { u.one(l[0], "house"); u.value(l[3], "house") })

	// But it does not begin a transaction alone.
	before := u.db.Commits()
	must(t, u.Commit(), u.Set(l[0], "name", null), u.Commit())
	expect(t, u.db.Commits(), before+1)
	u.costs(0, func() { u.one(l[4], "house"); u.one(l[0], "house") })
	must(t, u.Commit())
	expect(t, u.db.Commits(), before+1)
	u.costs(1, func() { u.value(l[3], "house.name") })
	must(t, u.Commit())
	expect(t, u.db.Commits(), before+2)

	// The last find of an object counts, without what was removed since.
	u = settle(t, api.LoadBatch)
	l = u.find(all("person"))
	u.find(api.Find{Entity: "person", Where: where(t, "less(:id,3)"), Limit: -1})
	u.costs(1, func() { u.one(l[0], "house") })
	u.costs(0, func() { u.one(l[1], "house") })
	u.costs(1, func() { u.one(l[2], "house") })
	u.costs(0, func() { u.one(l[3], "house"); u.one(l[4], "house") })
	u.costs(1, func() { u.all(l[0], "pets") })
	u.costs(0, func() { u.all(l[1], "pets") })
	u.costs(1, func() { u.all(l[2], "pets") })
	u = settle(t, api.LoadBatch)
	l = u.find(all("pet"))
	must(t, u.Remove(l[2]))
	u.costs(1, func() { u.one(l[0], "owner") })
	u.costs(0, func() { u.get("person", 1) })
	u.costs(1, func() { expect(t, u.one(l[2], "owner"), u.get("person", 2)) })

	// What was not found is loaded alone, also new objects.
	u = settle(t, api.LoadBatch)
	one, two := u.get("person", 1), u.get("person", 2)
	u.costs(1, func() { u.one(one, "house") })
	u.costs(1, func() { u.one(two, "house") })
	l = u.find(all("pet"))
	must(t, u.Point(l[0], "owner", u.made("person", 1)[0]), u.Point(l[1], "owner", 0))
	u.costs(0, func() { u.value(l[0], "owner.name"); u.one(l[2], "owner") })
}

// P7.12: with LoadEager a find loads what its inclusion tells.
func TestEager(t *testing.T) {
	u := settle(t, api.LoadEager)
	f := all("person")
	f.Include = []string{"house.street", "pets", "friends.pets", "friends.house"}
	var l []int
	u.costs(7, func() { l = u.find(f) })
	u.costs(0, func() {
		for _, h := range l {
			u.value(h, "house.street.name")
			u.all(h, "pets")
			u.all(h, "friends")
		}
		u.get("pet", 3)
		u.get("street", 2)
	})
	u.costs(0, func() { expect(t, u.one(l[4], "car"), u.get("street", 2)) })
	u.costs(1, func() { u.all(u.get("street", 1), "houses") })
	u.costs(1, func() { u.get("house", 3) })
	f.Limit = 0
	u.costs(7, func() { u.find(f) })
	u = settle(t, api.LoadEager)
	u.costs(2, func() { u.find(api.Find{Entity: "boss", Limit: -1, Include: []string{"car"}}) })
	// The others do not load it.
	for _, way := range []int{api.LoadLazy, api.LoadBatch} {
		u = settle(t, way)
		f.Limit = -1
		u.costs(1, func() { l = u.find(f) })
		u.costs(1, func() { u.all(l[0], "pets") })
	}
	_, err := u.Find(api.Find{Entity: "person", Limit: -1, Include: []string{"x"}}, nil)
	want(t, err, api.ErrName)
}

// P7.12: also many references and lists are loaded by one query.
func TestLargeBatch(t *testing.T) {
	m := model(t, "entity a tenant", "one up a clear", "many downs a up", "pairs both a both")
	var w api.World
	for i := range 3 * 1600 {
		o := api.Object{Entity: "a", Tenant: 1 + i/1600, ID: 1 + i%1600, Ones: []int{1 + (i+1)%1600}}
		w.Objects = append(w.Objects, o)
		w.Pairs = append(w.Pairs, api.PairOf{Entity: "a", Relation: "both", Tenant: o.Tenant, Left: o.ID, Right: o.ID})
	}
	u := use(t, m, storeOf(t, m, w), api.LoadBatch)
	l := u.find(all("a"))
	expect(t, len(l), len(w.Objects))
	u.costs(2, func() {
		for i := 0; i < len(l); i += 97 {
			next := i - i%1600 + (i+1)%1600
			expect(t, u.one(l[i], "up"), l[next])
			expect(t, u.all(l[next], "downs"), []int{l[i]})
			expect(t, u.all(l[i], "both"), []int{l[i]})
		}
	})
}

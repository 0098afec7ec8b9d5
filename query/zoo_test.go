package query_test

import (
	"testing"

	"dumbwaiter/api"
	"dumbwaiter/query"
	"dumbwaiter/schema"
)

// zooLines is a model with all that finds can meet: families with one table and apart, with tenants, versions, soft and not, relations of all kinds, also of entities to themselves, computed and embedded fields.
func zooLines() []string {
	return []string{
		"embed address", "field city text null", "field zip int null default 7",
		"entity person version soft",
		"field name text", "field age int null", "field home embed address", "field adult bool = atleast(:age,18)", "field tall text = concat(:name,'!')",
		"one mate person clear", "many pets pet owner", "many dogs dog owner", "many helpers worker mate", "pairs tags tag people", "pairs friends person friends",
		"entity worker of person",
		"field pay int default 5", "field since moment null",
		"one boss worker need refuse", "many staff worker boss",
		"entity pet apart soft tenant",
		"field name text null",
		"one owner person clear", "pairs likes pet liked", "pairs liked pet likes",
		"entity dog of pet",
		"field good bool default true", "field nick text = coalesce(:name,'dog')",
		"one rival pet clear", "many hunts cat fears",
		"entity cat of pet",
		"field lives int default 9",
		"one fears dog refuse", "pairs prey tag",
		"entity puppy of dog",
		"field weeks int null",
		"entity tag",
		"field label text null",
		"pairs people person tags",
	}
}

// zoo is the model of zooLines.
func zoo(t testing.TB) api.Model {
	t.Helper()
	return model(t, zooLines()...)
}

// zooWorld is a world of the zoo. Eve, the cat Tom and the dog Odd are gone.
func zooWorld(t testing.TB) api.World {
	t.Helper()
	w := api.World{
		Objects: []api.Object{
			{Entity: "person", ID: 1, Version: 1, Values: row(text("ann"), integer(30), text("ulm"), null), Ones: []int{2}},
			{Entity: "worker", ID: 2, Version: 3, Values: row(text("bob"), null, null, integer(7), integer(50), moment(86400)), Ones: []int{0, 2}},
			{Entity: "person", ID: 3, Version: 1, Gone: moment(60), Values: row(text("eve"), integer(12), null, null), Ones: []int{1}},
			{Entity: "worker", ID: 4, Version: 1, Values: row(text("joe"), integer(17), text("bonn"), integer(1), integer(5), null), Ones: []int{3, 2}},
			{Entity: "dog", Tenant: 1, ID: 1, Values: row(text("rex"), boolean(1)), Ones: []int{1, 3}},
			{Entity: "puppy", Tenant: 1, ID: 2, Values: row(null, boolean(0), integer(6)), Ones: []int{1, 0}},
			{Entity: "cat", Tenant: 1, ID: 3, Gone: moment(0), Values: row(text("tom"), integer(9)), Ones: []int{2, 1}},
			{Entity: "pet", Tenant: 1, ID: 4, Values: row(text("hen")), Ones: []int{3}},
			{Entity: "dog", Tenant: 2, ID: 1, Gone: moment(0), Values: row(text("odd"), boolean(1)), Ones: []int{2, 0}},
			{Entity: "cat", Tenant: 2, ID: 5, Values: row(text("kit"), integer(3)), Ones: []int{2, 1}},
			{Entity: "tag", ID: 1, Values: row(text("new"))},
			{Entity: "tag", ID: 2, Values: row(null)},
		},
		Pairs: []api.PairOf{
			{Entity: "cat", Relation: "prey", Tenant: 2, Left: 5, Right: 2},
			{Entity: "person", Relation: "friends", Left: 1, Right: 1}, {Entity: "person", Relation: "friends", Left: 1, Right: 2}, {Entity: "person", Relation: "friends", Left: 2, Right: 3},
			{Entity: "person", Relation: "tags", Left: 1, Right: 1}, {Entity: "person", Relation: "tags", Left: 2, Right: 1}, {Entity: "person", Relation: "tags", Left: 2, Right: 2},
			{Entity: "pet", Relation: "likes", Tenant: 1, Left: 1, Right: 2}, {Entity: "pet", Relation: "likes", Tenant: 1, Left: 1, Right: 3}, {Entity: "pet", Relation: "likes", Tenant: 1, Left: 2, Right: 2},
		},
	}
	must(t, schema.CheckWorld(zoo(t), w))
	return w
}

// ref names an object.
func ref(entity string, tenant, id int) api.Ref {
	return api.Ref{Entity: entity, Tenant: tenant, ID: id}
}

// idsOf are the ids of the objects of a find in the zoo, which Compile must find, too. (A parameter that is null stands for a Text.)
func idsOf(t testing.TB, f api.Find, params ...api.Value) []int {
	t.Helper()
	refs, err := query.Objects(zoo(t), zooWorld(t), f, params)
	must(t, err)
	var ids, compiled []int
	for _, o := range refs {
		ids = append(ids, o.ID)
	}
	var kinds []int
	for _, v := range params {
		if v == null {
			v = text("")
		}
		kinds = append(kinds, v.Kind)
	}
	st, err := query.Compile(zoo(t), f, kinds)
	must(t, err)
	s, d := tables(t, zoo(t), zooWorld(t))
	for _, r := range ask(t, s, d, st, params, api.DialectPlain) {
		compiled = append(compiled, r[2].N)
	}
	if !same(ids, compiled) {
		t.Error(f, ids, compiled)
	}
	return ids
}

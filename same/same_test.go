package same_test

import (
	"testing"

	"dumbwaiter/api"
	"dumbwaiter/same"
)

// object is an object in which nothing is zero.
func object() api.Object {
	return api.Object{Entity: "a", Tenant: 1, ID: 2, Version: 3, Gone: api.Value{Kind: api.Moment}, Values: []api.Value{{Kind: api.Int, N: 1}}, Ones: []int{4, 0}}
}

// Objects are equal in all fields.
func TestObject(t *testing.T) {
	if !same.Object(object(), object()) || !same.Object(api.Object{Values: []api.Value{}}, api.Object{Ones: []int{}}) {
		t.Error("equal objects")
	}
	for i, change := range []func(o *api.Object){
		func(o *api.Object) { o.Entity = "b" }, func(o *api.Object) { o.Tenant++ }, func(o *api.Object) { o.ID++ }, func(o *api.Object) { o.Version++ }, func(o *api.Object) { o.Gone = api.Value{} },
		func(o *api.Object) { o.Values[0].N++ }, func(o *api.Object) { o.Values = nil }, func(o *api.Object) { o.Ones[1] = 5 }, func(o *api.Object) { o.Ones = o.Ones[:1] },
	} {
		o := object()
		change(&o)
		if same.Object(object(), o) || same.Object(o, object()) {
			t.Error(i)
		}
	}
}

// data is data of two tables.
func data() api.Data {
	return api.Data{Tables: []api.TableRows{{Table: "s"}, {Table: "t", Rows: [][]api.Value{{{Kind: api.Int, N: 1}}, {{Kind: api.Int, N: 2}}}}}}
}

// Data are equal in all rows of all tables.
func TestData(t *testing.T) {
	if !same.Data(data(), data()) {
		t.Error("equal data")
	}
	for i, change := range []func(d *api.Data){
		func(d *api.Data) { d.Tables[0].Table = "r" }, func(d *api.Data) { d.Tables = d.Tables[1:] }, func(d *api.Data) { d.Tables[1].Rows = d.Tables[1].Rows[:1] }, func(d *api.Data) { d.Tables[1].Rows[1][0].N = 3 }, func(d *api.Data) { d.Tables[0].Rows = [][]api.Value{nil} },
	} {
		d := data()
		change(&d)
		if same.Data(data(), d) || same.Data(d, data()) {
			t.Error(i)
		}
	}
}

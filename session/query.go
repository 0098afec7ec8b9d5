package session

import (
	"dumbwaiter/api"
	"dumbwaiter/query"
	"dumbwaiter/schema"
	"dumbwaiter/sql"
)

func (t *storeTables) find(f api.Find) []name {
	// Find has checked it.
	st, _ := query.Compile(t.model, f, nil)
	result, _ := sql.Run(t.reader, st, nil)
	var l []name
	for _, row := range result.Rows {
		l = append(l, t.nameIn(f.Entity, row[1].N, row[2].N))
	}
	return l
}

func (t *storeTables) related(x list, owners []name) map[name][]name {
	family := owners[0].family
	l := map[name][]name{}
	add := func(owner int, to string, id, tenant int) {
		n := t.nameIn(family, tenant, owner)
		l[n] = append(l[n], t.nameIn(to, tenant, id))
	}
	if x.Kind == api.RelMany {
		table, column, _ := schema.Column(t.model, x.To, x.Back)
		for _, row := range t.rowsWith(table, column, "id", owners) {
			add(row[0].N, x.To, row[1].N, row[2].N)
		}
		return l
	}
	table := pairsTable(x.owner, x.name)
	if x.forward {
		for _, row := range t.rowsWith(table, "left_id", "right_id", owners) {
			add(row[0].N, x.To, row[1].N, row[2].N)
		}
	}
	if x.backward {
		for _, row := range t.rowsWith(table, "right_id", "left_id", owners) {
			add(row[0].N, x.To, row[1].N, row[2].N)
		}
	}
	return l
}

// rowsWith returns, for each row of a table that has an id of some objects in a column, this id, the one in another column, and the tenant (null, if rows have none).
func (t *storeTables) rowsWith(table, column, other string, owners []name) [][]api.Value {
	named := func(name string) api.Expr { return api.Expr{Kind: api.XColumn, Source: "x", Name: name} }
	tenant := api.Expr{Kind: api.XValue}
	if t.column(t.table(table), "tenant") >= 0 {
		tenant = named("tenant")
	}
	ids := []api.Expr{named(column)}
	for _, n := range owners {
		ids = append(ids, api.Expr{Kind: api.XValue, Value: number(n.id)})
	}
	where := api.Expr{Kind: api.XIn, Args: ids}
	if len(owners) == 1 {
		where = api.Expr{Kind: api.XOp, Op: api.OpEqual, Args: ids}
	}
	result, _ := sql.Run(t.reader, api.Statement{Kind: api.StSelect, Select: []api.Select{{
		Items: []api.Item{{Name: "owner", Expr: named(column)}, {Name: "other", Expr: named(other)}, {Name: "tenant", Expr: tenant}},
		From:  []api.Source{{Name: "x", Table: table}},
		Where: []api.Expr{where},
		Limit: -1,
	}}}, nil)
	return result.Rows
}

package session

import (
	"dumbwaiter/api"
	"dumbwaiter/query"
	"dumbwaiter/schema"
	"dumbwaiter/sql"
)

func (t *storeTables) find(f api.Find) []name {
	// Find has checked it.
	st, _ := query.Compile(t.model, f, nil)
	result, _ := sql.Run(t.reader, st, nil)
	var l []name
	for _, row := range result.Rows {
		l = append(l, t.nameIn(f.Entity, row[1].N, row[2].N))
	}
	return l
}

func (t *storeTables) related(x list, owners []name) map[name][]name {
	family := owners[0].family
	l := map[name][]name{}
	read := func(table, column, other string) {
		for _, row := range t.rowsWith(table, column, other, owners) {
			owner, id, tenant := row[0].N, row[1].N, row[2].N
			n := t.nameIn(family, tenant, owner)
			l[n] = append(l[n], t.nameIn(x.To, tenant, id))
		}
	}
	if x.Kind == api.RelMany {
		table, column, _ := schema.Column(t.model, x.To, x.Back)
		read(table, column, "id")
	}
	if x.forward {
		read(pairsTable(x.owner, x.name), "left_id", "right_id")
	}
	if x.backward {
		read(pairsTable(x.owner, x.name), "right_id", "left_id")
	}
	return l
}

// rowsWith returns, for each row of a table that has an id of some objects in a column, this id, the one in another column, and the tenant (null, if rows have none).
func (t *storeTables) rowsWith(table, column, other string, owners []name) [][]api.Value {
	tenant := literal(api.Value{})
	isBound := t.column(t.table(table), "tenant") >= 0
	if isBound {
		tenant = named("tenant")
	}
	ids := []api.Expr{named(column)}
	for _, n := range owners {
		ids = append(ids, literal(number(n.id)))
		isBound = isBound && n.tenant != 0 && n.tenant == owners[0].tenant
	}
	where := api.Expr{Kind: api.XIn, Args: ids}
	if len(owners) == 1 {
		where = operation(api.OpEqual, ids...)
	}
	if isBound {
		where = operation(api.OpAnd, operation(api.OpEqual, tenant, literal(number(owners[0].tenant))), where)
	}
	result, _ := sql.Run(t.reader, api.Statement{Kind: api.StSelect, Select: []api.Select{{
		Items: []api.Item{{Name: "owner", Expr: named(column)}, {Name: "other", Expr: named(other)}, {Name: "tenant", Expr: tenant}},
		From:  []api.Source{{Name: source, Table: table}},
		Where: []api.Expr{where},
		Limit: -1,
	}}}, nil)
	return result.Rows
}

// source is the name of the table within a select.
const source = "x"

// named returns a column of the table.
func named(column string) api.Expr {
	return api.Expr{Kind: api.XColumn, Source: source, Name: column}
}

// literal returns an expression with a value.
func literal(v api.Value) api.Expr { return api.Expr{Kind: api.XValue, Value: v} }

// operation returns an expression with an operation.
func operation(op int, args ...api.Expr) api.Expr {
	return api.Expr{Kind: api.XOp, Op: op, Args: args}
}

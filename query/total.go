package query

import (
	"maps"
	"slices"
	"strconv"

	"dumbwaiter/api"
	"dumbwaiter/operate"
	"dumbwaiter/value"
)

// CheckTotal checks a total.
func CheckTotal(m api.Model, t api.Total, params []int) api.Errno {
	c, err := catalogOf(m)
	if err != api.OK {
		return err
	}
	_, err = checker{catalog: c, params: params}.checkTotal(t)
	return err
}

// checkTotal checks a total, and returns its entity.
func (c checker) checkTotal(t api.Total) (*entity, api.Errno) {
	e := c.entity(t.Entity)
	switch {
	case e == nil:
		return nil, api.ErrName
	case len(t.Where) > 1 || len(t.Having) > 1:
		return nil, api.ErrForm
	}
	return e, first(
		func() api.Errno { return c.checkWhere(t.Where, e) },
		func() api.Errno { return c.checkGroup(t, e) },
		func() api.Errno { return c.checkAggs(t.Aggs, e) },
		func() api.Errno { return c.checkHaving(t, e) },
		func() api.Errno { return c.checkTotalNumbers(t, e) },
	)
}

// checkGroup checks by what objects are grouped.
func (c checker) checkGroup(t api.Total, e *entity) api.Errno {
	if len(t.Group) > api.MaxGroups || len(t.Aggs) > api.MaxAggs {
		return api.ErrLarge
	}
	for _, path := range t.Group {
		if _, err := c.toValue(e, path); err != api.OK {
			return err
		}
	}
	return api.OK
}

// checkAggs checks the aggregates over the objects of an entity.
func (c checker) checkAggs(l []api.Agg, e *entity) api.Errno {
	if len(l) == 0 {
		return api.ErrForm
	}
	for _, a := range l {
		if err := c.checkAgg(a, e); err != api.OK {
			return err
		}
	}
	return api.OK
}

// checkAgg checks an aggregate.
func (c checker) checkAgg(a api.Agg, e *entity) api.Errno {
	switch {
	case a.Op < api.AggRows || a.Op > api.AggMost:
		return api.ErrKind
	case a.Op == api.AggRows && (a.Path != "" || a.Distinct), a.Op != api.AggRows && a.Path == "":
		return api.ErrForm
	case a.Op == api.AggRows:
		return api.OK
	}
	r, err := c.toValue(e, a.Path)
	switch {
	case err != api.OK:
		return err
	case a.Op == api.AggSum && r.end.slot.Kind != api.Int:
		return api.ErrType
	}
	return api.OK
}

// cells returns the columns that Having can name.
func (c *catalog) cells(t api.Total, e *entity) []api.Cell {
	kindOf := func(path string) int {
		r, _ := c.toValue(e, path)
		return r.end.slot.Kind
	}
	var l []api.Cell
	for i, path := range t.Group {
		l = append(l, api.Cell{Name: "group" + strconv.Itoa(i), Kind: kindOf(path)})
	}
	for i, a := range t.Aggs {
		kind := api.Int
		if a.Op == api.AggLeast || a.Op == api.AggMost {
			kind = kindOf(a.Path)
		}
		l = append(l, api.Cell{Name: "agg" + strconv.Itoa(i), Kind: kind})
	}
	return l
}

// checkHaving checks which rows are left.
func (c checker) checkHaving(t api.Total, e *entity) api.Errno {
	for _, x := range t.Having {
		if err := c.checkKinds(); err != api.OK {
			return err
		}
		// value.KindOf has no kind of parameters for null, but expressions with null.
		isNull := func(n int) bool { return n >= 0 && n < len(c.params) && c.params[n] == api.Null }
		kinds := mapped(c.params, func(kind int) int { return max(kind, api.Bool) })
		if err := asBool(value.KindOf(withNulls(x, isNull), c.cells(t, e), kinds)); err != api.OK {
			return err
		}
	}
	return api.OK
}

// checkTotalNumbers checks the tenant and the weight of a total.
func (c checker) checkTotalNumbers(t api.Total, e *entity) api.Errno {
	if !isCount(t.Tenant) {
		return api.ErrArg
	}
	paths := append([]string(nil), t.Group...)
	for _, a := range t.Aggs {
		if a.Op != api.AggRows {
			paths = append(paths, a.Path)
		}
	}
	if len(t.Group)+len(t.Aggs)+e.tables()+c.weight(t.Where, paths, e) > api.MaxWeight {
		return api.ErrLarge
	}
	return api.OK
}

// Totals returns the rows of a total.
func Totals(m api.Model, w api.World, t api.Total, params []api.Value) ([][]api.Value, api.Errno) {
	s, err := sceneFor(m, w)
	if err != api.OK {
		return nil, err
	}
	kinds, err := kindsOf(params)
	if err != api.OK {
		return nil, err
	}
	e, err := checker{s.catalog, kinds, true}.checkTotal(t)
	if err != api.OK {
		return nil, err
	}
	j := judge{sceneOf(s.catalog, seen(m, w, t.Tenant, t.Gone)), params}
	rows := mapped(j.groups(t, e), func(g []int) []api.Value { return j.total(t, e, g) })
	for _, x := range t.Having {
		cells := s.cells(t, e)
		rows = slices.DeleteFunc(rows, func(row []api.Value) bool {
			v, _ := value.Eval(x, cells, row, params)
			return !operate.IsTrue(v)
		})
	}
	return rows, api.OK
}

// values returns the values of a path for the objects at some places.
func (j judge) values(e *entity, path string, places []int) []api.Value {
	r, _ := j.toValue(e, path)
	return mapped(places, j.look(r))
}

// groups returns the places of the objects of a total in groups, sorted by the values of the groups.
func (j judge) groups(t api.Total, e *entity) [][]int {
	places := j.chosen(e, t.Where)
	if len(t.Group) == 0 {
		return [][]int{places}
	}
	columns := mapped(t.Group, func(path string) []api.Value { return j.values(e, path, places) })
	groups := map[string][]int{}
	for i, place := range places {
		key := string(value.Key(mapped(columns, func(c []api.Value) api.Value { return c[i] })))
		groups[key] = append(groups[key], place)
	}
	// Keys are ordered as the values are.
	return mapped(slices.Sorted(maps.Keys(groups)), func(key string) []int { return groups[key] })
}

// total returns the row of a group.
func (j judge) total(t api.Total, e *entity, places []int) []api.Value {
	var row []api.Value
	for _, path := range t.Group {
		row = append(row, j.values(e, path, places[:1])...)
	}
	for _, a := range t.Aggs {
		if a.Op == api.AggRows {
			row = append(row, number(len(places)))
			continue
		}
		row = append(row, aggregate(a, j.values(e, a.Path, places)))
	}
	return row
}

// aggregate returns an aggregate over values.
func aggregate(a api.Agg, l []api.Value) api.Value {
	l = slices.DeleteFunc(l, func(v api.Value) bool { return v.Kind == api.Null })
	slices.SortFunc(l, value.Compare)
	if a.Distinct {
		l = slices.Compact(l)
	}
	switch {
	case a.Op == api.AggCount:
		return number(len(l))
	case len(l) == 0:
		return api.Value{}
	case a.Op == api.AggLeast:
		return l[0]
	case a.Op == api.AggMost:
		return l[len(l)-1]
	}
	return sum(l)
}

// sum returns the sum of Ints, null if it is not right. (There are no more than MaxObjects of them, so that nothing overflows.)
func sum(l []api.Value) api.Value {
	n := 0
	for _, v := range l {
		n += v.N
	}
	if v := number(n); isRight(v) {
		return v
	}
	return api.Value{}
}

// CompileTotal returns a statement for a total.
func CompileTotal(m api.Model, t api.Total, params []int) (api.Statement, api.Errno) {
	c, err := catalogOf(m)
	if err != api.OK {
		return api.Statement{}, err
	}
	e, err := checker{catalog: c, params: params}.checkTotal(t)
	if err != api.OK {
		return api.Statement{}, err
	}
	x := &compiler{catalog: c, tenant: t.Tenant, gone: t.Gone}
	b := x.objects(e, false)
	b.conditions = append(b.conditions, mapped(t.Where, b.condition)...)
	b.items = []api.Item{{Name: "id", Expr: b.object.head("id")}}
	add := func(name, path string) {
		b.items = append(b.items, api.Item{Name: name, Expr: b.value(e, path)})
	}
	for i, path := range t.Group {
		add("group"+strconv.Itoa(i), path)
	}
	for i, a := range t.Aggs {
		if a.Op != api.AggRows {
			add("agg"+strconv.Itoa(i), a.Path)
		}
	}
	return statement(grouped(t, api.Source{Name: x.name(), Sub: []api.Select{b.query()}}), params), api.OK
}

// grouped returns the select of a total over a source whose columns have the values of its paths.
func grouped(t api.Total, from api.Source) api.Select {
	q := api.Select{From: []api.Source{from}, Limit: -1}
	named := map[string]api.Expr{}
	add := func(name string, e api.Expr) {
		q.Items = append(q.Items, api.Item{Name: name, Expr: e})
		named[name] = e
	}
	for i := range t.Group {
		name := "group" + strconv.Itoa(i)
		e := column(from.Name, name)
		add(name, e)
		q.Group = append(q.Group, e)
		q.Order = append(q.Order, api.Order{Expr: e})
	}
	for i, a := range t.Aggs {
		name := "agg" + strconv.Itoa(i)
		e := api.Expr{Kind: api.XAgg, Op: a.Op}
		if a.Op != api.AggRows {
			e.Args = []api.Expr{column(from.Name, name)}
			// The least and the greatest value are the same ones if each counts once.
			e.Distinct = a.Distinct && a.Op != api.AggLeast && a.Op != api.AggMost
		}
		add(name, e)
	}
	var written func(e api.Expr) api.Expr
	written = func(e api.Expr) api.Expr {
		if e.Kind == api.XColumn {
			return copied(named[e.Name])
		}
		return rebuilt(e, written)
	}
	q.Having = mapped(t.Having, written)
	return q
}

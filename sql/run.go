package sql

import (
	"dumbwaiter/api"
	"dumbwaiter/parts"
	"dumbwaiter/store"
)

// Run executes a statement in a transaction.
func Run(t *store.Txn, st api.Statement, params []api.Value) (api.Result, api.Errno) {
	s, err := t.Schema()
	if err != api.OK {
		return api.Result{}, err
	}
	columns, err := headings(s, st)
	if err == api.OK {
		err = checkParams(st.Params, params)
	}
	if err != api.OK {
		return api.Result{}, err
	}
	x := execution{txn: t, scanned: map[string][][]api.Value{}}
	x.engine = &engine{tablesOf(s), x.scan, params}
	given := x.read(st)
	if st.Kind == api.StSelect {
		rows := x.block(st.Select[0], nil, given).answer(nil)
		return api.Result{Headings: columns, Rows: rows, Read: x.count}, api.OK
	}
	changes := x.changes(st, given)
	if err := t.Batch(changes); err != api.OK {
		return api.Result{}, err
	}
	return api.Result{Count: len(changes), Read: x.count}, api.OK
}

// RunText executes a statement that is written in a dialect.
func RunText(t *store.Txn, text string, dialect int, kinds []int, params []api.Value) (api.Result, api.Errno) {
	s, err := t.Schema()
	if err != api.OK {
		return api.Result{}, err
	}
	st, err := Parse(s, text, dialect, kinds)
	if err != api.OK {
		return api.Result{}, err
	}
	return Run(t, st, params)
}

// execution is the execution of a right statement in a transaction.
type execution struct {
	*engine
	txn     *store.Txn
	scanned map[string][][]api.Value // the rows of tables that have been read as a whole
	count   int                      // of the rows that have been read
}

// scan returns the rows of a table.
func (x *execution) scan(table string) [][]api.Value {
	rows, known := x.scanned[table]
	if !known {
		rows, _ = x.txn.Scan(table)
		x.scanned[table] = rows
	}
	return rows
}

// read reads all rows that the statement reads, whether their values will be asked for or not, and returns those of what it has an Access for.
func (x *execution) read(st api.Statement) map[string][][]api.Value {
	given := map[string][][]api.Value{}
	for _, a := range accesses(x.tables, st) {
		given[a.Source] = x.accessed(a)
		x.count += len(given[a.Source])
	}
	parts.Outermost(st, func(p parts.Part) {
		p.Inner(func(q parts.Part) {
			if p.Query != nil && q.Source != nil && q.Source.Table != "" {
				return // it has an Access
			}
			q.Walk(x.readWhole)
		})
	})
	return given
}

// readWhole reads all rows of a table that is a source. It wants to see all parts.
func (x *execution) readWhole(p parts.Part) bool {
	if p.Source != nil && p.Source.Table != "" {
		x.count += len(x.scan(p.Source.Table))
	}
	return true
}

// accessed returns the rows that an access reads.
func (x *execution) accessed(a access) [][]api.Value {
	values := mapped(a.values, func(e api.Expr) api.Value { return x.code(e, nil)(nil) })
	var rows [][]api.Value
	switch a.Way {
	case api.ByKey:
		if row, err := x.txn.Get(a.table.Name, values); err == api.OK {
			rows = append(rows, row)
		}
	case api.ByIndex:
		rows, _ = x.txn.Find(a.table.Name, a.Index, values)
	default:
		rows = x.scan(a.table.Name)
	}
	return rows
}

package migrate

import (
	"slices"
	"strconv"

	"dumbwaiter/api"
	"dumbwaiter/same"
	"dumbwaiter/store"
)

// historyName is the name of the table of the migrations that a store has had.
const historyName = "history_"

// historyTable returns this table.
func historyTable() api.Table {
	return api.Table{
		Name:    historyName,
		Columns: []api.Column{{Name: "number", Kind: api.Int}, {Name: "sum", Kind: api.Text}},
		Key:     []string{"number"},
	}
}

// Status returns the migrations that a store has had.
func Status(db *store.Store) ([]api.Applied, api.Errno) {
	table := tableOf(db.Schema(), historyName)
	if table.Name == "" {
		return nil, api.OK
	}
	if !same.Table(table, historyTable()) {
		return nil, api.ErrForm
	}
	t := db.Begin()
	defer t.Rollback()
	rows, err := t.Scan(historyName)
	if err != api.OK {
		return nil, err
	}
	var done []api.Applied
	for _, row := range rows {
		sum, ok := readSum(row[1].S)
		if !ok {
			return nil, api.ErrForm
		}
		done = append(done, api.Applied{Number: row[0].N, Sum: sum})
	}
	return done, api.OK
}

// readSum reads a sum.
func readSum(s string) (uint64, bool) {
	sum, err := strconv.ParseUint(s, 10, 64)
	return sum, err == nil && strconv.FormatUint(sum, 10) == s
}

// Pending returns the numbers of the migrations that a store has not had.
func Pending(l []api.Migration, done []api.Applied) ([]int, api.Errno) {
	if len(l) > api.MaxMigrations {
		return nil, api.ErrLarge
	}
	before := 0
	for _, m := range l {
		if err := checkNext(m, before); err != api.OK {
			return nil, err
		}
		before = m.Number
	}
	had := map[int]bool{}
	for i, x := range done {
		if i > 0 && x.Number <= done[i-1].Number {
			return nil, api.ErrOrder
		}
		place := migrationPlace(l, x.Number)
		if place < 0 {
			return nil, api.ErrNone
		}
		if sum, _ := Sum(l[place]); sum != x.Sum {
			return nil, api.ErrSum
		}
		had[x.Number] = true
	}
	var numbers []int
	for _, m := range l {
		switch {
		case !had[m.Number]:
			numbers = append(numbers, m.Number)
		case len(numbers) > 0:
			return nil, api.ErrOrder
		}
	}
	return numbers, api.OK
}

// stand returns the migrations that a store has had, and the numbers of those of a chain that it has not had.
func stand(db *store.Store, l []api.Migration) ([]api.Applied, []int, api.Errno) {
	done, err := Status(db)
	if err != api.OK {
		return nil, nil, err
	}
	numbers, err := Pending(l, done)
	return done, numbers, err
}

// Deploy carries out what is pending.
func Deploy(db *store.Store, l []api.Migration) (int, api.Errno) {
	_, numbers, err := stand(db, l)
	if err != api.OK {
		return 0, err
	}
	for n, number := range numbers {
		m := l[migrationPlace(l, number)]
		sum, _ := Sum(m)
		row := []api.Value{{Kind: api.Int, N: number}, {Kind: api.Text, S: strconv.FormatUint(sum, 10)}}
		err := carryOut(db, m.Up, func(t *store.Txn) api.Errno { return t.Insert(historyName, row) })
		if err != api.OK {
			return n, err
		}
	}
	return len(numbers), api.OK
}

// Revert takes migrations back.
func Revert(db *store.Store, l []api.Migration, to int) (int, api.Errno) {
	if to < 0 {
		return 0, api.ErrArg
	}
	done, _, err := stand(db, l)
	if err != api.OK {
		return 0, err
	}
	slices.Reverse(done)
	for n, x := range done {
		if x.Number <= to {
			return n, api.OK
		}
		key := []api.Value{{Kind: api.Int, N: x.Number}}
		err := carryOut(db, l[migrationPlace(l, x.Number)].Down, func(t *store.Txn) api.Errno { return t.Delete(historyName, key) })
		if err != api.OK {
			return n, err
		}
	}
	return len(done), api.OK
}

// carryOut makes changes, and writes down that they were made, in a transaction of its own. The table for that belongs to migrations alone.
func carryOut(db *store.Store, l []api.Change, note func(t *store.Txn) api.Errno) api.Errno {
	if slices.ContainsFunc(l, func(c api.Change) bool { return c.Table == historyName || c.New.Name == historyName }) {
		return api.ErrName
	}
	if tablePlace(db.Schema(), historyName) < 0 {
		l = slices.Concat([]api.Change{{Kind: api.ChCreate, New: historyTable()}}, l)
	}
	t := db.Begin()
	for _, c := range l {
		if err := t.Alter(c); err != api.OK {
			t.Rollback()
			return err
		}
	}
	if err := note(t); err != api.OK {
		t.Rollback()
		return err
	}
	return t.Commit()
}

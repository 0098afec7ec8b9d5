package store_test

import (
	"math/rand"
	"testing"

	"dumbwaiter/api"
	"dumbwaiter/schema"
	"dumbwaiter/store"
)

// outcome is what a call of a transaction gives.
type outcome struct {
	Rows   [][]api.Value
	Schema api.Schema
	Data   api.Data
	Err    api.Errno
}

// call is a call of a transaction, for the store and for a naive one.
type call struct {
	real  func(t *store.Txn) outcome
	naive func(x *naiveTxn) outcome
}

// one is a list of one row, if there is one.
func one(r []api.Value) [][]api.Value {
	if r == nil {
		return nil
	}
	return [][]api.Value{r}
}

// randomRead makes a call that reads.
func randomRead(r *rand.Rand, s api.Schema) call {
	t := s.Tables[r.Intn(len(s.Tables))]
	table, index := t.Name, "none"
	if r.Intn(50) == 0 {
		table = "none"
	}
	switch r.Intn(12) {
	case 0:
		return call{
			func(t *store.Txn) outcome { d, err := t.Data(); return outcome{Data: d, Err: err} },
			func(x *naiveTxn) outcome { return outcome{Data: x.all()} },
		}
	case 1:
		return call{
			func(t *store.Txn) outcome { s, err := t.Schema(); return outcome{Schema: s, Err: err} },
			func(x *naiveTxn) outcome { return outcome{Schema: x.schema} },
		}
	case 2, 3:
		return call{
			func(t *store.Txn) outcome { l, err := t.Scan(table); return outcome{Rows: l, Err: err} },
			func(x *naiveTxn) outcome { l, err := x.scan(table); return outcome{Rows: l, Err: err} },
		}
	case 4, 5, 6, 7:
		key := pickAt(t, randomRow(r, t, r.Intn(9) > 0), t.Key)
		return call{
			func(t *store.Txn) outcome { l, err := t.Get(table, key); return outcome{Rows: one(l), Err: err} },
			func(x *naiveTxn) outcome { l, err := x.get(table, key); return outcome{Rows: one(l), Err: err} },
		}
	}
	var values []api.Value
	if len(t.Indexes) > 0 {
		x := t.Indexes[r.Intn(len(t.Indexes))]
		index, values = x.Name, pickAt(t, randomRow(r, t, true), x.Columns[:r.Intn(len(x.Columns)+1)])
	}
	if r.Intn(20) == 0 {
		values = append(values, null)
	}
	return call{
		func(t *store.Txn) outcome { l, err := t.Find(table, index, values); return outcome{Rows: l, Err: err} },
		func(x *naiveTxn) outcome { l, err := x.find(table, index, values); return outcome{Rows: l, Err: err} },
	}
}

// randomWrite makes a call that writes.
func randomWrite(r *rand.Rand, s api.Schema, d api.Data) call {
	l := []api.RowChange{randomChange(r, s, d)}
	for r.Intn(2) == 0 {
		l = append(l, randomChange(r, s, d))
	}
	return call{
		func(t *store.Txn) outcome {
			c := l[0]
			switch {
			case len(l) > 1:
			case c.Kind == api.RowInsert && len(c.Key) == 0:
				return outcome{Err: t.Insert(c.Table, c.Row)}
			case c.Kind == api.RowUpdate:
				return outcome{Err: t.Update(c.Table, c.Key, c.Row)}
			case c.Kind == api.RowDelete && len(c.Row) == 0:
				return outcome{Err: t.Delete(c.Table, c.Key)}
			}
			return outcome{Err: t.Batch(l)}
		},
		func(x *naiveTxn) outcome { return outcome{Err: x.batch(l)} },
	}
}

// randomCall makes a call.
func randomCall(r *rand.Rand, s api.Schema, d api.Data, alters int) call {
	switch n := r.Intn(100); {
	case n < alters:
		c := randomAlter(r, s)
		return call{
			func(t *store.Txn) outcome { return outcome{Err: t.Alter(c)} },
			func(x *naiveTxn) outcome { return outcome{Err: x.alter(c)} },
		}
	case n < 45:
		return randomRead(r, s)
	}
	return randomWrite(r, s, d)
}

// done is a call with what it gave.
type done struct {
	call
	outcome
}

// running is a transaction of the store with its calls, and a naive one.
type running struct {
	real  *store.Txn
	naive *naiveTxn
	calls []done
}

// mix is transactions that go on at once.
type mix struct {
	*rand.Rand
	real      *store.Store
	naive     *naive
	running   []*running
	committed []*running
	errors    map[api.Errno]int
}

// step makes a call of a transaction, or begins or ends one.
func (m *mix) step(t *testing.T, alters int) {
	if len(m.running) == 0 || len(m.running) < 4 && m.Intn(8) == 0 {
		m.running = append(m.running, &running{real: m.real.Begin(), naive: m.naive.begin()})
		return
	}
	at := m.Intn(len(m.running))
	x := m.running[at]
	if m.Intn(12) > 0 {
		c := randomCall(m.Rand, x.naive.schema, x.naive.data, alters)
		got, want := c.real(x.real), c.naive(x.naive)
		if !same(got, want) {
			t.Error("got", got, "want", want)
		}
		x.calls = append(x.calls, done{c, got})
		m.errors[got.Err]++
		return
	}
	m.running = append(m.running[:at], m.running[at+1:]...)
	if m.Intn(6) == 0 {
		must(t, x.real.Rollback())
		return
	}
	got, want := x.real.Commit(), x.naive.commit()
	if got != want {
		t.Error("commit got", got, "want", want)
	}
	m.errors[got]++
	if got == api.OK {
		m.committed = append(m.committed, x)
	}
	if !same(m.real.Schema(), m.naive.schema) || !same(m.real.Data(), m.naive.data) || m.real.Commits() != len(m.naive.commits) {
		t.Error("store", m.real.Data(), "want", m.naive.data)
	}
}

// checkSerial makes the calls of the committed transactions one after another.
func (m *mix) checkSerial(t *testing.T) {
	x := stocked(t)
	for _, y := range m.committed {
		a := x.Begin()
		for _, c := range y.calls {
			if got := c.real(a); !same(got, c.outcome) {
				t.Error("alone", got, "before", c.outcome)
			}
		}
		must(t, a.Commit())
	}
	if !same(x.Data(), m.real.Data()) || !same(x.Schema(), m.real.Schema()) {
		t.Error("serial", x.Data())
	}
}

// checkLog opens the log, and parts of it.
func (m *mix) checkLog(t *testing.T) {
	log := m.real.Log()
	x, err := store.Open(log)
	if err != api.OK || !same(x.Data(), m.real.Data()) || !same(x.Schema(), m.real.Schema()) || !same(x.Log(), log) || x.Commits() != m.real.Commits() {
		t.Error("opened", err)
	}
	before := -1
	for cut := range log {
		if m.Intn(len(log)) > 30 {
			continue
		}
		if x, err := store.Open(log[:cut]); err == api.OK {
			if x.Commits() < before || x.Commits() >= m.real.Commits() || !same(x.Log(), log[:len(x.Log())]) || schema.CheckData(x.Schema(), x.Data()) != api.OK {
				t.Error("cut", cut, x.Commits())
			}
			before = x.Commits()
		}
	}
}

// P3.7 to P3.12: every result is that of a naive store; what was committed is serial; the log tells all of it.
func TestTransactionsAtRandom(t *testing.T) {
	errors := map[api.Errno]int{}
	for seed := range 100 {
		r := rand.New(rand.NewSource(int64(seed)))
		s := depot(t)
		x := stocked(t)
		m := &mix{Rand: r, real: x, naive: &naive{schema: s, data: stock(), commits: make([]naiveCommit, 1)}, errors: errors}
		for range 400 {
			m.step(t, seed%3*2)
		}
		m.checkSerial(t)
		m.checkLog(t)
		if t.Failed() {
			t.Fatal("seed", seed)
		}
	}
	for _, err := range []api.Errno{api.OK, api.ErrForm, api.ErrKind, api.ErrName, api.ErrTwice, api.ErrType, api.ErrNull, api.ErrKey, api.ErrRef, api.ErrNone, api.ErrLost, api.ErrArg, api.ErrState, api.ErrConflict} {
		if errors[err] == 0 {
			t.Error("no error", err)
		}
	}
}

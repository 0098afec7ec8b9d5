package migrate_test

import (
	"slices"
	"testing"

	"dumbwaiter/api"
	"dumbwaiter/migrate"
)

// P6.8: what is told as a risk of the last one of some changes.
func TestRisks(t *testing.T) {
	for _, x := range []struct {
		want []api.Errno
		l    []string
	}{
		{nil, nil},
		{nil, []string{"create dog", "column id int", "key id", "foreign up dog id", "unique u id", "end"}},
		{nil, []string{"drop item"}},
		{nil, []string{"rename item thing"}},
		{nil, []string{"add item x int null"}},
		{nil, []string{"remove item spare"}},
		{nil, []string{"move item n m"}},
		{nil, []string{"loose shelf firm"}},
		{nil, []string{"default item n 3"}},
		{nil, []string{"unindex box z"}},
		{nil, []string{"unforeign item up"}},
		{nil, []string{"order box seen open label size id"}},
		// ChCast: from each kind to each other one.
		{nil, []string{"cast item spare int"}},
		{nil, []string{"cast item spare text"}},
		{nil, []string{"cast item n bool"}},
		{nil, []string{"cast item n text"}},
		{[]api.Errno{api.ErrLost}, []string{"cast item n moment"}},
		{[]api.Errno{api.ErrLost}, []string{"cast item name bool"}},
		{[]api.Errno{api.ErrLost}, []string{"cast item name int"}},
		{[]api.Errno{api.ErrLost}, []string{"cast item name moment"}},
		{nil, []string{"cast shelf since int"}},
		{nil, []string{"cast shelf since text"}},
		{[]api.Errno{api.ErrLost}, []string{"cast shelf since int", "cast shelf since moment"}},
		// Of columns of the key, or of an index that is unique.
		{[]api.Errno{api.ErrKey}, []string{"unforeign item shelf", "cast shelf place bool"}},
		{nil, []string{"unforeign item shelf", "cast shelf place text"}},
		{[]api.Errno{api.ErrLost}, []string{"unforeign item shelf", "cast shelf name bool"}},
		{[]api.Errno{api.ErrKey}, []string{"cast box size bool"}},
		{nil, []string{"unindex box byseen", "cast box size bool"}},
		{nil, []string{"cast box size text"}},
		// ChTight.
		{[]api.Errno{api.ErrNull}, []string{"tight item n null"}},
		{nil, []string{"tight item n 1"}},
		{[]api.Errno{api.ErrNull}, []string{"tight item box null"}},
		{[]api.Errno{api.ErrRef}, []string{"tight item box 1"}},
		{[]api.Errno{api.ErrNull}, []string{"tight box seen null"}},
		{[]api.Errno{api.ErrKey}, []string{"tight box seen @1970-01-01T00:00:00"}},
		{[]api.Errno{api.ErrKey, api.ErrRef}, []string{"unique item u n up", "tight item up 1"}},
		{[]api.Errno{api.ErrNull}, []string{"unique item u n up", "tight item up null"}},
		{nil, []string{"unforeign item up", "tight item up 1"}},
		// ChIndex and ChForeign.
		{[]api.Errno{api.ErrKey}, []string{"unique item u n"}},
		{nil, []string{"index item u n"}},
		{[]api.Errno{api.ErrRef}, []string{"foreign item u box n"}},
	} {
		var want []api.Risk
		for _, err := range x.want {
			want = append(want, api.Risk{Change: len(x.l) - 1, Error: err})
		}
		l := list(t, x.l...)
		got, err := migrate.Risks(depot(t), l)
		got = slices.DeleteFunc(got, func(r api.Risk) bool { return r.Change < len(l)-1 })
		if err != api.OK || !slices.Equal(got, want) {
			t.Error(x, got, err)
		}
	}
	l := list(t, "unique item u n", "rename item thing", "foreign thing v box n", "tight thing n 3", "default item n 3")[:4]
	want := []api.Risk{{Change: 0, Error: api.ErrKey}, {Change: 2, Error: api.ErrRef}, {Change: 3, Error: api.ErrKey}, {Change: 3, Error: api.ErrRef}}
	if got, err := migrate.Risks(depot(t), l); err != api.OK || !slices.Equal(got, want) {
		t.Error(got, err)
	}
}

// P6.8: each error that Run has is told.
func TestRisksAtRandom(t *testing.T) {
	errors := map[api.Errno]int{}
	randomly(t, 2000, func(t *testing.T, r *maker) {
		s := r.schema()
		l, _ := r.changes(s, 1+r.Intn(8))
		risks, err := migrate.Risks(s, l)
		must(t, err)
		for range 4 {
			d := r.data(s)
			_, _, at, err := migrate.Run(s, d, l)
			errors[err]++
			if err != api.OK && !slices.Contains(risks, api.Risk{Change: at, Error: err}) {
				t.Error(told(t, s), written(t, l), risks, at, err)
			}
		}
	})
	for _, err := range []api.Errno{api.OK, api.ErrLost, api.ErrNull, api.ErrKey, api.ErrRef} {
		if errors[err] < 20 {
			t.Error(err, errors)
		}
	}
}

// P6.9: which tables are locked, and how.
func TestLocks(t *testing.T) {
	lock := func(table string, way int) api.Lock { return api.Lock{Table: table, Way: way} }
	for _, x := range []struct {
		l    []string
		want []api.Lock
	}{
		{nil, nil},
		{[]string{"drop item"}, []api.Lock{lock("item", api.LockLight)}},
		{[]string{"rename item a"}, []api.Lock{lock("item", api.LockLight)}},
		{[]string{"add item x int null"}, []api.Lock{lock("item", api.LockCopy)}},
		{[]string{"remove item spare"}, []api.Lock{lock("item", api.LockCopy)}},
		{[]string{"move item n m"}, []api.Lock{lock("item", api.LockLight)}},
		{[]string{"cast item n text"}, []api.Lock{lock("item", api.LockCopy)}},
		{[]string{"loose shelf firm"}, []api.Lock{lock("shelf", api.LockLight)}},
		{[]string{"tight item n null"}, []api.Lock{lock("item", api.LockScan)}},
		{[]string{"default item n 3"}, []api.Lock{lock("item", api.LockLight)}},
		{[]string{"index item u n"}, []api.Lock{lock("item", api.LockScan)}},
		{[]string{"unindex box z"}, []api.Lock{lock("box", api.LockLight)}},
		{[]string{"foreign item u box n"}, []api.Lock{lock("box", api.LockScan), lock("item", api.LockScan)}},
		{[]string{"foreign item u item n"}, []api.Lock{lock("item", api.LockScan)}},
		{[]string{"unforeign item box"}, []api.Lock{lock("item", api.LockLight)}},
		{[]string{"order box seen open label size id"}, []api.Lock{lock("box", api.LockCopy)}},
		// The greatest one counts; a table is told by the name that it had.
		{[]string{"unindex box z", "rename box a", "tight a seen null", "add a x int null", "remove a x", "move a size y", "rename shelf box", "default box firm null"}, []api.Lock{lock("box", api.LockCopy), lock("shelf", api.LockLight)}},
		// What the list itself creates is not told, also under the name of another one.
		{[]string{"create dog", "column id int", "key id", "foreign x box id", "end", "add dog x int null", "foreign item dog dog n", "foreign dog item item x"}, []api.Lock{lock("item", api.LockScan)}},
		{[]string{"drop item", "create item", "column id int", "key id", "end", "add item x int null"}, []api.Lock{lock("item", api.LockLight)}},
		{[]string{"rename item thing", "create item", "column id int", "key id", "end", "add item x int null", "unforeign thing up"}, []api.Lock{lock("item", api.LockLight)}},
	} {
		if got, err := migrate.Locks(depot(t), list(t, x.l...)); err != api.OK || !slices.Equal(got, x.want) {
			t.Error(x, got, err)
		}
	}
}

package cache

import (
	"slices"
	"strings"

	"dumbwaiter/api"
	"dumbwaiter/clone"
	"dumbwaiter/query"
	"dumbwaiter/same"
	"dumbwaiter/schema"
	"dumbwaiter/session"
	"dumbwaiter/store"
	"dumbwaiter/value"
)

// Reader reads objects of a store, with a cache.
type Reader struct {
	model       api.Model
	db          *store.Store
	cache       *Cache
	tenant, now int
	queries     int
}

// NewReader returns a reader.
func NewReader(m api.Model, db *store.Store, c *Cache, tenant, now int) (*Reader, api.Errno) {
	r := &Reader{model: clone.Model(m), db: db, cache: c, tenant: tenant, now: now}
	if _, err := r.session(); err != api.OK {
		return nil, err
	}
	return r, api.OK
}

// session returns a new session.
func (r *Reader) session() (*session.Session, api.Errno) {
	return session.New(r.model, r.db, r.tenant, r.now, api.LoadLazy, nil)
}

// Queries returns how many queries the reader has executed.
func (r *Reader) Queries() int { return r.queries }

// Get returns the object of an entity with a number.
func (r *Reader) Get(entity string, id int, strict bool) (api.Object, api.Errno) {
	names, err := schema.Family(r.model, entity)
	if err != api.OK {
		return api.Object{}, err
	}
	f := familiesOf(r.model)[entity]
	if f.tenant && r.tenant == 0 {
		return api.Object{}, api.ErrTenant
	}
	if !strict {
		for _, name := range names {
			if o, there := r.cache.Object(api.Ref{Entity: name, Tenant: f.tenantOf(r.tenant), ID: id}); there {
				return o, api.OK
			}
		}
	}
	l, err := r.read(func(s *session.Session) ([]int, api.Errno) {
		h, err := s.Get(entity, id)
		return []int{h}, err
	})
	if err != api.OK {
		return api.Object{}, err
	}
	r.keep(l)
	return l[0], api.OK
}

// Find returns all objects of a find.
func (r *Reader) Find(f api.Find, params []api.Value, strict bool) ([]api.Object, api.Errno) {
	if err := r.checkFind(f, params); err != api.OK {
		return nil, err
	}
	if r.tenant != 0 {
		f.Tenant = r.tenant
	}
	label, unlabelled := Label(r.model, f, params)
	if !strict && unlabelled == api.OK {
		if l, there := r.cache.List(label); there {
			return l, api.OK
		}
	}
	l, err := r.read(func(s *session.Session) ([]int, api.Errno) { return s.Find(f, params) })
	if err != api.OK {
		return nil, err
	}
	if unlabelled == api.OK {
		tags, _ := Tags(r.model, f)
		r.cache.KeepList(label, l, tags, r.db.Commits())
	}
	r.keep(l)
	return l, api.OK
}

// checkFind returns the errors that a find has whatever is stored.
func (r *Reader) checkFind(f api.Find, params []api.Value) api.Errno {
	// Of a world without objects nothing but the errors matters.
	if _, err := query.Objects(r.model, api.World{}, f, params); err != api.OK {
		return err
	}
	switch {
	case r.tenant != 0 && f.Tenant != 0 && f.Tenant != r.tenant:
		return api.ErrTenant
	case f.Gone:
		return api.ErrForm
	}
	return api.OK
}

// read returns the objects of the handles that a new session gives.
func (r *Reader) read(ask func(s *session.Session) ([]int, api.Errno)) ([]api.Object, api.Errno) {
	s, err := r.session()
	if err != api.OK {
		return nil, err
	}
	defer s.Rollback()
	r.queries++
	handles, err := ask(s)
	if err != api.OK {
		return nil, err
	}
	var l []api.Object
	for _, h := range handles {
		o, _ := s.Object(h)
		l = append(l, o)
	}
	return l, api.OK
}

// keep offers objects that were read to the cache.
func (r *Reader) keep(l []api.Object) {
	for _, o := range l {
		r.cache.Keep(o, r.db.Commits())
	}
}

// Label returns a text for a find and parameters.
func Label(_ api.Model, f api.Find, params []api.Value) (string, api.Errno) {
	text, err := query.Text(f)
	if err != api.OK {
		return "", err
	}
	var b strings.Builder
	b.WriteString(text)
	for _, v := range params {
		if v != (api.Value{}) && value.Check(v.Kind, v) != api.OK {
			return "", api.ErrForm
		}
		b.WriteString(value.Show(v) + "\n")
	}
	return b.String(), api.OK
}

// Work plays acts on a new session.
func (r *Reader) Work(acts []api.Act) ([]api.Outcome, []api.Note) {
	var outcomes []api.Outcome
	s, err := r.session()
	if err != api.OK {
		// The schema of the store has become another one: no act can be done.
		for range acts {
			outcomes = append(outcomes, api.Outcome{Error: err})
		}
		return outcomes, nil
	}
	defer s.Rollback()
	var notes []api.Note
	before := r.moment()
	for i := range acts {
		outcomes = append(outcomes, session.Play(s, acts[i:i+1])...)
		if r.db.Commits() == before.commits {
			continue
		}
		after := r.moment()
		if !same.Data(before.data, after.data) {
			n := r.told(before, after)
			r.cache.Own(n)
			notes = append(notes, n)
		}
		before = after
	}
	return outcomes, notes
}

// moment is what the tables of a store have behind some commits.
type moment struct {
	commits int
	data    api.Data
}

// moment returns what the tables of the model have now: a store can also have one of migrations.
func (r *Reader) moment() moment {
	d := r.db.Data()
	d.Tables = slices.DeleteFunc(d.Tables, func(x api.TableRows) bool { return x.Table == "history_" })
	return moment{r.db.Commits(), d}
}

// told returns the notice of a commit of a session. Sessions change only what tells a world, to what tells one.
func (r *Reader) told(before, after moment) api.Note {
	v, _ := schema.World(r.model, before.data)
	w, _ := schema.World(r.model, after.data)
	return noted(r.model, v, w, after.commits)
}

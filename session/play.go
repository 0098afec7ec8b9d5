package session

import (
	"dumbwaiter/api"
	"dumbwaiter/clone"
	"dumbwaiter/schema"
)

// Direct carries acts out over a world.
func Direct(m api.Model, w api.World, tenant, now int, hooks []api.Hook, acts []api.Act) ([]api.Outcome, api.World, api.Errno) {
	if err := schema.CheckWorld(m, w); err != api.OK {
		return nil, api.World{}, err
	}
	if err := checkArgs(tenant, now, api.LoadLazy); err != api.OK {
		return nil, api.World{}, err
	}
	if err := CheckHooks(m, hooks); err != api.OK {
		return nil, api.World{}, err
	}
	if len(acts) > api.MaxActs {
		return nil, api.World{}, api.ErrLarge
	}
	c := catalogOf(clone.Model(m))
	t := newWorldTables(c, clone.World(w))
	outcomes := Play(newSession(c, t, tenant, now, api.LoadLazy, hooks), acts)
	return outcomes, t.kept, api.OK
}

// Play carries acts out.
func Play(s *Session, acts []api.Act) []api.Outcome {
	var l []api.Outcome
	for _, a := range acts {
		if err := checkAct(a); err != api.OK {
			l = append(l, api.Outcome{Error: err})
			continue
		}
		l = append(l, s.play(a))
	}
	return l
}

// checkAct checks the form of an act.
func checkAct(a api.Act) api.Errno {
	rest := a
	switch a.Kind {
	case api.ActMake, api.ActGet:
		rest.Entity, rest.N = "", 0
	case api.ActFind:
		if len(a.Find) != 1 {
			return api.ErrForm
		}
		rest.Find, rest.Params = nil, nil
	case api.ActSave, api.ActRemove, api.ActHold:
		rest.A = 0
	case api.ActValue, api.ActOne, api.ActAll:
		rest.A, rest.Name = 0, ""
	case api.ActSet:
		rest.A, rest.Name, rest.Value = 0, "", api.Value{}
	case api.ActPoint, api.ActLink, api.ActUnlink:
		rest.A, rest.Name, rest.B = 0, "", 0
	case api.ActFlush, api.ActCommit, api.ActRollback:
	default:
		return api.ErrKind
	}
	if rest.A != 0 || rest.B != 0 || rest.N != 0 || rest.Entity != "" || rest.Name != "" ||
		rest.Value != (api.Value{}) || len(rest.Find) > 0 || len(rest.Params) > 0 {
		return api.ErrForm
	}
	return api.OK
}

// play carries an act out whose form is right.
func (s *Session) play(a api.Act) api.Outcome {
	switch a.Kind {
	case api.ActMake:
		return one(s.Make(a.Entity, a.N))
	case api.ActGet:
		return one(s.Get(a.Entity, a.N))
	case api.ActOne:
		return one(s.One(a.A, a.Name))
	case api.ActFind:
		l, err := s.Find(a.Find[0], a.Params)
		return api.Outcome{Error: err, Handles: l}
	case api.ActAll:
		l, err := s.All(a.A, a.Name)
		return api.Outcome{Error: err, Handles: l}
	case api.ActValue:
		v, err := s.Value(a.A, a.Name)
		return api.Outcome{Error: err, Value: v}
	}
	return api.Outcome{Error: s.change(a)}
}

// one returns the outcome of a call that gives a handle, or 0.
func one(h int, err api.Errno) api.Outcome {
	if h == 0 {
		return api.Outcome{Error: err}
	}
	return api.Outcome{Error: err, Handles: []int{h}}
}

// change carries an act out that gives nothing but an error.
func (s *Session) change(a api.Act) api.Errno {
	switch a.Kind {
	case api.ActSave:
		return s.Save(a.A)
	case api.ActSet:
		return s.Set(a.A, a.Name, a.Value)
	case api.ActPoint:
		return s.Point(a.A, a.Name, a.B)
	case api.ActLink:
		return s.Link(a.A, a.Name, a.B)
	case api.ActUnlink:
		return s.Unlink(a.A, a.Name, a.B)
	case api.ActRemove:
		return s.Remove(a.A)
	case api.ActHold:
		return s.Hold(a.A)
	case api.ActFlush:
		return s.Flush()
	case api.ActCommit:
		return s.Commit()
	}
	s.Rollback()
	return api.OK
}

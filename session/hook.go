package session

import (
	"slices"

	"dumbwaiter/api"
	"dumbwaiter/clone"
	"dumbwaiter/schema"
	"dumbwaiter/value"
)

// hook is a hook that is right.
type hook struct {
	api.Hook
	slot    int        // the place of Slot among the values
	columns []api.Cell // what its expressions can name
}

// columns returns the columns of the hooks for an entity.
func (e *entity) columns() []api.Cell {
	l := append(slices.Clone(e.values), api.Cell{Name: "id", Kind: api.Int})
	if e.root.Version {
		l = append(l, api.Cell{Name: "version", Kind: api.Int})
	}
	if e.root.Tenant {
		l = append(l, api.Cell{Name: "tenant", Kind: api.Int})
	}
	return l
}

// row returns the values of an object in the columns of the hooks for an entity.
func (e *entity) row(x *item) []api.Value {
	l := append(slices.Clone(x.now.Values[:len(e.values)]), number(x.now.ID))
	if e.root.Version {
		l = append(l, number(x.was.Version))
	}
	if e.root.Tenant {
		l = append(l, number(x.now.Tenant))
	}
	return l
}

// hook returns a hook that shares no memory with what it is of.
func (c *catalog) hook(h api.Hook) hook {
	e := c.entities[h.Entity]
	h.Set, h.Refuse = clone.Exprs(h.Set), clone.Exprs(h.Refuse)
	return hook{h, e.value(h.Slot), e.columns()}
}

// CheckHooks checks hooks.
func CheckHooks(m api.Model, hooks []api.Hook) api.Errno {
	if err := schema.Check(m); err != api.OK {
		return err
	}
	if len(hooks) > api.MaxHooks {
		return api.ErrLarge
	}
	c := catalogOf(m)
	for _, h := range hooks {
		if err := c.checkHook(h); err != api.OK {
			return err
		}
	}
	return api.OK
}

// checkHook checks a hook.
func (c *catalog) checkHook(h api.Hook) api.Errno {
	e := c.entities[h.Entity]
	switch {
	case e == nil:
		return api.ErrName
	case h.When != api.HookSave && h.When != api.HookRemove:
		return api.ErrKind
	case len(h.Set) > 1, len(h.Refuse) > 1, len(h.Set)+len(h.Refuse) == 0,
		(h.Slot == "") != (len(h.Set) == 0), len(h.Set) > 0 && h.When == api.HookRemove:
		return api.ErrForm
	}
	slot := e.value(h.Slot)
	if h.Slot != "" && slot < 0 {
		return api.ErrName
	}
	var wanted, kinds []int
	if h.Slot != "" {
		wanted = append(wanted, e.values[slot].Kind)
	}
	for range h.Refuse {
		wanted = append(wanted, api.Bool)
	}
	for _, x := range slices.Concat(h.Set, h.Refuse) {
		kind, err := value.KindOf(x, e.columns(), nil)
		if err != api.OK {
			return err
		}
		kinds = append(kinds, kind)
	}
	if !slices.EqualFunc(kinds, wanted, func(kind, wanted int) bool { return kind == wanted || kind == api.Null }) {
		return api.ErrType
	}
	return api.OK
}

// runHooks runs the hooks of all objects that are saved, and then of those that the program has removed.
func (f *flush) runHooks() api.Errno {
	for _, x := range f.items {
		if x.differs() && !x.goes() {
			if err := f.runFor(x, api.HookSave); err != api.OK {
				return err
			}
		}
	}
	for _, x := range f.items {
		if x.removed {
			if err := f.runFor(x, api.HookRemove); err != api.OK {
				return err
			}
		}
	}
	return api.OK
}

// runFor runs the hooks of an object for a moment.
func (f *flush) runFor(x *item, when int) api.Errno {
	for _, h := range f.hooks {
		if h.When != when || !f.entities[x.now.Entity].isOf(h.Entity) {
			continue
		}
		e := f.entities[h.Entity]
		for _, set := range h.Set {
			// What fits the kind of the slot gives a value of this kind, or null.
			v, _ := value.Eval(set, h.columns, e.row(x), nil)
			x.set(h.slot, v)
		}
		for _, refuse := range h.Refuse {
			if v, _ := value.Eval(refuse, h.columns, e.row(x), nil); v == value.Bool(true) {
				return api.ErrRefused
			}
		}
	}
	return api.OK
}

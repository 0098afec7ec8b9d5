package query

import (
	"dumbwaiter/api"
)

// Columns returns the slots of an answer.
func Columns(m api.Model, name string) ([]api.Slot, api.Errno) {
	c, e, err := lookup(m, name)
	if err != api.OK {
		return nil, err
	}
	return c.columns(e), api.OK
}

// columns returns the slots of an entity, and then those that only entities below it have.
func (c *catalog) columns(e *entity) []api.Slot {
	var l []api.Slot
	type slotName struct{ entity, name string }
	seen := map[slotName]bool{}
	for _, name := range e.family {
		for _, slot := range c.entity(name).slots {
			if n := (slotName{slot.Entity, slot.Name}); !seen[n] {
				seen[n] = true
				l = append(l, slot)
			}
		}
	}
	return l
}

// Check checks a find.
func Check(m api.Model, f api.Find, params []int) api.Errno {
	c, err := catalogOf(m)
	if err != api.OK {
		return err
	}
	_, err = checker{catalog: c, params: params}.checkFind(f)
	return err
}

// checkFind checks a find, and returns its entity.
func (c checker) checkFind(f api.Find) (*entity, api.Errno) {
	weight, err := c.weigh(f)
	if err == api.OK && weight > api.MaxWeight {
		err = api.ErrLarge
	}
	if err != api.OK {
		return nil, err
	}
	return c.entity(f.Entity), api.OK
}

// Weight returns the weight of a find without parameters.
func Weight(m api.Model, f api.Find) (int, api.Errno) {
	c, err := catalogOf(m)
	if err != api.OK {
		return 0, err
	}
	return checker{catalog: c}.weigh(f)
}

// weigh returns the weight of a find for which everything else is right.
func (c checker) weigh(f api.Find) (int, api.Errno) {
	e := c.entity(f.Entity)
	switch {
	case e == nil:
		return 0, api.ErrName
	case len(f.Where) > 1:
		return 0, api.ErrForm
	}
	err := first(
		func() api.Errno { return c.checkWhere(f.Where, e) },
		func() api.Errno { return c.checkOrder(f.Order, e) },
		func() api.Errno { return checkNumbers(f) },
		func() api.Errno { _, err := c.steps(e, f.Include); return err },
	)
	if err != api.OK {
		return 0, err
	}
	columns := len(c.columns(e))
	if columns > api.MaxWidth {
		return 0, api.ErrLarge
	}
	tables := e.tables()
	if e.root.Apart {
		tables += len(e.family) - 1
	}
	paths := mapped(f.Order, func(o api.By) string { return o.Path })
	return columns + tables + c.weight(f.Where, paths, e), api.OK
}

// checkOrder checks an order of the objects of an entity.
func (c checker) checkOrder(l []api.By, e *entity) api.Errno {
	if len(l) > api.MaxOrders {
		return api.ErrLarge
	}
	for _, o := range l {
		if _, err := c.toValue(e, o.Path); err != api.OK {
			return err
		}
	}
	return api.OK
}

// checkNumbers checks the numbers of a find.
func checkNumbers(f api.Find) api.Errno {
	if f.Limit < -1 || f.Limit > api.MaxInt || !isCount(f.Offset) || !isCount(f.Tenant) {
		return api.ErrArg
	}
	return api.OK
}

// isCount reports whether a number is from 0 to MaxInt.
func isCount(n int) bool { return n >= 0 && n <= api.MaxInt }

// weight returns the weight of a condition and of paths to values.
func (c *catalog) weight(where []api.Expr, paths []string, e *entity) int {
	sum := 0
	weigh := func(r route) {
		for _, x := range r.relations() {
			sum += c.entity(x.slot.To).tables()
		}
	}
	for _, x := range where {
		c.visit(x, &spot{entity: e}, func(x api.Expr, at *spot) {
			r := c.routeOf(x, at)
			weigh(r)
			sum++
			if r.end.what == isFormula {
				parts, _ := size(r.end.formula)
				sum += parts
			}
		})
	}
	for _, path := range paths {
		r, _ := c.toValue(e, path)
		weigh(r)
	}
	return sum
}

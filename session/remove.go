package session

import (
	"slices"

	"dumbwaiter/api"
)

// referrer is an object that refers to another one, by the RelOne at a place.
type referrer struct {
	*item
	place int
}

// remove removes what refers to objects that are removed whole, or lets it refer to nothing.
func (f *flush) remove() api.Errno {
	var work []*item
	for _, x := range f.items {
		if x.whole {
			work = append(work, x)
		}
	}
	if len(work) == 0 {
		return api.OK
	}
	referrers := f.referrers()
	var others []referrer
	for len(work) > 0 {
		x := work[len(work)-1]
		work = work[:len(work)-1]
		for _, r := range referrers[x] {
			switch {
			case f.onDelete(r) != api.Cascade:
				others = append(others, r)
			case !r.whole:
				r.whole = true
				work = append(work, r.item)
			}
		}
	}
	return f.clear(others)
}

// referrers returns, for each object, what refers to it.
func (f *flush) referrers() map[*item][]referrer {
	l := map[*item][]referrer{}
	for _, x := range f.items {
		for place, id := range x.now.Ones {
			if to := f.places[f.target(x.now, place)]; id != 0 && to != nil {
				l[to] = append(l[to], referrer{x, place})
			}
		}
	}
	return l
}

// onDelete returns what happens to a referrer.
func (f *flush) onDelete(r referrer) int {
	return f.entities[r.now.Entity].ones[r.place].OnDelete
}

// clear lets objects that are not removed whole refer to nothing.
func (f *flush) clear(l []referrer) api.Errno {
	l = slices.DeleteFunc(l, func(r referrer) bool { return r.whole })
	if slices.ContainsFunc(l, func(r referrer) bool { return f.onDelete(r) == api.Refuse }) {
		return api.ErrRef
	}
	for _, r := range l {
		r.one(r.place, 0)
	}
	return f.checkTenants()
}

// checkTenants checks that what is removed or has changed is of the tenant of the session.
func (f *flush) checkTenants() api.Errno {
	isForeign := func(x *item) bool {
		return f.tenant != 0 && x.now.Tenant != f.tenant && (x.whole || x.differs())
	}
	if slices.ContainsFunc(f.items, isForeign) {
		return api.ErrTenant
	}
	return api.OK
}

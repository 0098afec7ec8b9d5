package session

import "dumbwaiter/api"

// CheckTenants says whether a session of a tenant can let an object become another one, or remove it whole, in step 3 of a flush.
func CheckTenants(m api.Model, tenant int, was, now api.Object, whole bool) api.Errno {
	c := catalogOf(m)
	s := newSession(c, newWorldTables(c, api.World{}), tenant, 0, api.LoadLazy, nil)
	return (&flush{Session: s, items: []*item{{was: was, now: now, whole: whole}}}).checkTenants()
}

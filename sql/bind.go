package sql

import (
	"dumbwaiter/api"
	"dumbwaiter/parts"
)

// Bind returns a statement without parameters.
func Bind(s api.Schema, st api.Statement, params []api.Value) (api.Statement, api.Errno) {
	err := Check(s, st)
	if err == api.OK {
		err = checkParams(st.Params, params)
	}
	if err != api.OK {
		return api.Statement{}, err
	}
	st.Params = nil
	bind := func(e api.Expr) api.Expr {
		if e.Kind == api.XParam {
			return api.Expr{Kind: api.XValue, Value: params[e.N]}
		}
		return e
	}
	return parts.Rewriter{Expr: bind}.Statement(st), api.OK
}

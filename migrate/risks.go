package migrate

import (
	"slices"

	"dumbwaiter/api"
)

// Risks returns what can fail.
func Risks(s api.Schema, l []api.Change) ([]api.Risk, api.Errno) {
	var told []api.Risk
	_, err := walk(s, l, func(x step) {
		for _, err := range x.risks() {
			told = append(told, api.Risk{Change: x.number, Error: err})
		}
	})
	if err != api.OK {
		return nil, err
	}
	return told, api.OK
}

// risks returns the errors that rows can have at a change.
func (x step) risks() []api.Errno {
	var l []api.Errno
	add := func(can bool, err api.Errno) {
		if can {
			l = append(l, err)
		}
	}
	t := x.table()
	isUnique := slices.ContainsFunc(t.Indexes, func(i api.Index) bool { return i.Unique && slices.Contains(i.Columns, x.Name) })
	isForeign := slices.ContainsFunc(t.Foreigns, func(f api.Foreign) bool { return slices.Contains(f.Columns, x.Name) })
	add(x.canLose(), api.ErrLost)
	add(x.Kind == api.ChTight && isNull(x.Column.Default), api.ErrNull)
	add(x.Kind == api.ChIndex && x.Index.Unique || x.makesBools() && (isUnique || slices.Contains(t.Key, x.Name)) || x.fillsNulls() && isUnique, api.ErrKey)
	add(x.Kind == api.ChForeign || x.fillsNulls() && isForeign, api.ErrRef)
	return l
}

// canLose reports whether a change casts values of which some have no value of the new kind.
func (x step) canLose() bool {
	if x.Kind != api.ChCast {
		return false
	}
	kind := x.column().Kind
	return kind == api.Text || kind == api.Int && x.Column.Kind == api.Moment
}

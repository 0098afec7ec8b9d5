package session

import (
	"slices"

	"dumbwaiter/api"
	"dumbwaiter/clone"
)

// object is an object of a session.
type object struct {
	handle int        // 0: none
	state  int        // StateClean stands also for StateChanged
	now    api.Object // its current state; as long as it has no id, minus its handle is its ID. References to such objects are told by this ID, too.
	was    api.Object // of one with an id: when it was loaded or last flushed
	held   bool
	mates  []*object // with LoadBatch: the objects of the last find that has returned it
}

// isMade reports whether an object has been made and not flushed.
func (o *object) isMade() bool { return o.state == api.StateFree || o.state == api.StateNew }

// isChanged reports whether an object is in StateChanged.
func (o *object) isChanged() bool {
	return o.state == api.StateClean && !(slices.Equal(o.now.Values, o.was.Values) && slices.Equal(o.now.Ones, o.was.Ones))
}

// isThere reports whether references lead to an object.
func (o *object) isThere() bool {
	return o != nil && o.state != api.StateRemoved && o.state != api.StatePast
}

// be makes an object what stands in the tables.
func (o *object) be(x api.Object) {
	o.state, o.now, o.was = api.StateClean, clone.Object(x), x
}

// end puts an object in StatePast. Nothing but its handle is left of it.
func (o *object) end() { *o = object{handle: o.handle, state: api.StatePast} }

// merged returns what a flush makes of the object in the tables. Of an object without versions it writes only what has changed.
func (o *object) merged(x api.Object, versioned bool) api.Object {
	x = clone.Object(x)
	for i, v := range o.now.Values {
		if versioned || v != o.was.Values[i] {
			x.Values[i] = v
		}
	}
	for i, id := range o.now.Ones {
		if versioned || id != o.was.Ones[i] {
			x.Ones[i] = id
		}
	}
	return x
}

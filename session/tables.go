package session

import (
	"dumbwaiter/api"
)

// tables is where the objects of a session stand. Everything but begin is asked within a transaction, which sees what stood there when it began, and what was written since. What it returns is not changed by anybody, and belongs to the session.
type tables interface {
	begin() api.Errno
	// find returns the names of the objects of a find that has no parameters.
	find(f api.Find) []name
	// objects returns the objects with some names that are there.
	objects(l []name) []api.Object
	// related returns the names of the objects that some objects have by a relation, and perhaps others that it cannot have.
	related(x list, owners []name) map[name][]name
	// ask returns the object with a name, if it is there. The transaction depends on it then.
	ask(n name) (api.Object, bool)
	// askPair reports whether a pair is there. The transaction depends on it then.
	askPair(p api.PairOf) bool
	// world returns all objects and pairs.
	world() (api.World, api.Errno)
	// write makes a world what stands in the tables.
	write(w api.World) api.Errno
	// commit and rollback end the transaction. Behind an error of commit nothing of it is left.
	commit() api.Errno
	rollback()
}

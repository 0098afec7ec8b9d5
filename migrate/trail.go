package migrate

import "dumbwaiter/api"

// trail follows the tables of a schema, and their columns, through changes: by the names that tables have now.
type trail map[string]*track

// track is the name that a table had, and those that its columns had, by the ones that they have now.
type track struct {
	table   string
	columns map[string]string
}

// trailOf returns the trail of a schema ahead of all changes.
func trailOf(s api.Schema) trail {
	l := trail{}
	for _, t := range s.Tables {
		l[t.Name] = &track{t.Name, map[string]string{}}
		for _, c := range t.Columns {
			l[t.Name].columns[c.Name] = c.Name
		}
	}
	return l
}

// follow goes on behind a change. What it creates or adds is not followed.
func (l trail) follow(c api.Change) {
	t := l[c.Table]
	if t == nil {
		return
	}
	switch c.Kind {
	case api.ChDrop:
		delete(l, c.Table)
	case api.ChRename:
		delete(l, c.Table)
		l[c.Name] = t
	case api.ChRemove:
		delete(t.columns, c.Name)
	case api.ChMove:
		if old, there := t.columns[c.Name]; there {
			delete(t.columns, c.Name)
			t.columns[c.Name2] = old
		}
	}
}

package migrate

import (
	"strconv"

	"dumbwaiter/api"
	"dumbwaiter/listing"
)

// Read returns the migration with a text.
func Read(s string) (api.Migration, api.Errno) {
	return listing.Read(s, readMigration, Text, func(api.Migration) api.Errno { return api.OK })
}

// readMigration returns the only migration that can have a text; it need not have it.
func readMigration(s string) (api.Migration, bool) {
	lines, ok := listing.Lines(s)
	if !ok || len(lines) == 0 {
		return api.Migration{}, false
	}
	m, ok := readHead(lines[0])
	var list *[]api.Change
	var table *api.Table // whose lines are being read
	for _, w := range lines[1:] {
		switch {
		case !ok:
		case table != nil && w[0] == "end":
			table = nil
		case table != nil:
			ok = listing.ReadTable(table, w)
		case w[0] == "up":
			list = &m.Up
		case w[0] == "down":
			list = &m.Down
		case list == nil:
			ok = false
		default:
			var c api.Change
			c, ok = readChange(w)
			*list = append(*list, c)
			if c.Kind == api.ChCreate {
				table = &(*list)[len(*list)-1].New
			}
		}
	}
	return m, ok
}

// readHead reads the first line of a migration.
func readHead(w listing.Words) (api.Migration, bool) {
	if len(w) != 3 || w[0] != "migration" {
		return api.Migration{}, false
	}
	number, err := strconv.Atoi(w[1])
	return api.Migration{Number: number, Name: w[2]}, err == nil
}

// readChange reads the line of a change. Further words do not matter: then the change has another text.
func readChange(w listing.Words) (api.Change, bool) {
	c, ok := changeOf(w[0])
	w = w[1:]
	for _, e := range entries(&c) {
		n := 0
		if ok {
			n, ok = e.read(w)
		}
		w = w[n:]
	}
	return c, ok
}

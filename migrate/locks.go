package migrate

import "dumbwaiter/api"

// ways has how each kind of change locks the table that it names.
var ways = [...]int{
	api.ChDrop:      api.LockLight,
	api.ChRename:    api.LockLight,
	api.ChAdd:       api.LockCopy,
	api.ChRemove:    api.LockCopy,
	api.ChMove:      api.LockLight,
	api.ChCast:      api.LockCopy,
	api.ChLoose:     api.LockLight,
	api.ChTight:     api.LockScan,
	api.ChDefault:   api.LockLight,
	api.ChIndex:     api.LockScan,
	api.ChUnindex:   api.LockLight,
	api.ChForeign:   api.LockScan,
	api.ChUnforeign: api.LockLight,
	api.ChOrder:     api.LockCopy,
}

// Locks returns how tables are locked.
func Locks(s api.Schema, l []api.Change) ([]api.Lock, api.Errno) {
	tracks, greatest := trailOf(s), map[string]int{}
	lock := func(table string, way int) {
		if t := tracks[table]; t != nil {
			greatest[t.table] = max(greatest[t.table], way)
		}
	}
	_, err := walk(s, l, func(x step) {
		lock(x.Table, ways[x.Kind])
		lock(x.Foreign.Table, api.LockScan)
		tracks.follow(x.Change)
	})
	if err != api.OK {
		return nil, err
	}
	var told []api.Lock
	for _, t := range s.Tables {
		if way := greatest[t.Name]; way > 0 {
			told = append(told, api.Lock{Table: t.Name, Way: way})
		}
	}
	return told, api.OK
}

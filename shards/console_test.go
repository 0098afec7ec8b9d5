package shards_test

import (
	"slices"
	"strconv"
	"strings"
	"testing"

	"dumbwaiter/api"
	"dumbwaiter/cache"
	"dumbwaiter/schema"
	"dumbwaiter/shards"
	"dumbwaiter/value"
)

// pets is the text of a model for the console.
func pets() string {
	return lines("entity book version", "field name text default 'x'", "field age int null", "one next book clear",
		"entity note soft tenant", "field text text null", "field done bool default false", "field seen moment null", "one book book clear", "one reply note clear",
		"entity memo of note", "field due int default 7")
}

// talk runs commands and checks the replies: each pair is a line and its reply.
func talk(t testing.TB, pairs ...string) {
	t.Helper()
	var commands, replies []string
	for i := 0; i < len(pairs); i += 2 {
		commands = append(commands, pairs[i])
		replies = append(replies, pairs[i+1])
	}
	got := strings.Split(shards.Run(pets()+"end\n"+lines(commands...)), "\n")
	for i, reply := range replies {
		if i >= len(got) || got[i] != reply {
			t.Fatalf("line %d: %q: got %q want %q", i, commands[i], got[min(i, len(got)-1)], reply)
		}
	}
	if len(got) != len(replies)+1 || got[len(replies)] != "" {
		t.Errorf("%q", got)
	}
}

// P9.16: acts of a tenant, and what they have done.
func TestConsoleActs(t *testing.T) {
	talk(t,
		"as 1", "ok", "make a note", "ok", "set a text 'it''s  a note '", "ok", "set a done true", "ok", "set a seen @2026-11-17T09:05:00", "ok", "make b memo", "ok", "point b reply a", "ok", "point a reply a", "ok", "save a", "ok", "save b", "ok", "do", "ok",
		"find 1 note", "ok 2 1 2", "find 1 memo", "ok 1 2", "find 2 note", "ok 0", "find 0 note", "ok 2 1 2", "find 1 book", "ok 0",
		"show note 1 1", "ok 'it''s  a note ' true @2026-11-17T09:05:00 0 1", "show memo 1 2", "ok null false null 7 0 1", "show note 1 2", "ok null false null 7 0 1", "show memo 1 1", "error 12", "show note 2 1", "error 12", "show note 0 1", "error 12",
		"as 1", "ok", "get x memo 2", "ok", "set x due null", "ok", "point x reply -", "ok", "get y note 1", "ok", "remove y", "ok", "do", "error 9",
		"show note 1 2", "ok null false null 7 0 1",
		"as 1", "ok", "get x memo 2", "ok", "set x due -3", "ok", "point x reply -", "ok", "get y note 1", "ok", "remove y", "ok", "do", "ok",
		"find 1 note", "ok 1 2", "show note 1 2", "ok null false null -3 0 0", "show note 1 1", "ok 'it''s  a note ' true @2026-11-17T09:05:00 0 1",
		"count 0", "ok 2", "count 1", "ok 0", "count 2", "error 1", "count -1", "error 1",
	)
}

// P9.16: acts for all shards.
func TestConsoleShared(t *testing.T) {
	talk(t,
		"as 0", "ok", "make a book", "ok", "save a", "ok", "do", "ok", "find 0 book", "ok 1 1", "find 2 book", "ok 1 1", "show book 0 1", "ok 'x' null 0", "count 0", "ok 1", "count 1", "ok 1", "show book 1 1", "error 12",
		"as 0", "ok", "make n note", "ok", "save n", "ok", "do", "error 22",
		"as 0", "ok", "get a book 1", "ok", "remove a", "ok", "do", "error 11",
		"as 0", "ok", "get a book 1", "ok", "get b book 1", "ok", "set a age 5", "ok", "set b name 'y'", "ok", "make c book", "ok", "point c next b", "ok", "save c", "ok", "do", "ok",
		"show book 0 1", "ok 'y' 5 0", "show book 0 2", "ok 'x' null 1",
		"as 2", "ok", "make n note", "ok", "get b book 2", "ok", "point n book b", "ok", "save n", "ok", "set b name 'z'", "ok", "do", "error 22", "show note 2 1", "ok null false null 2 0", "show book 0 2", "ok 'x' null 1",
	)
}

// P9.16: labels stand for handles: the same object has the same one, and where an act has an error there is none.
func TestConsoleLabels(t *testing.T) {
	talk(t,
		"as 1", "ok", "make a note", "ok", "make a memo", "ok", "set a due 8", "ok", "save a", "ok", "do", "ok", "find 1 note", "ok 1 1", "show note 1 1", "ok null false null 8 0 0",
		"as 1", "ok", "get x note 1", "ok", "get y memo 1", "ok", "get z note 9", "ok", "set y due 9", "ok", "set x due 10", "ok", "do", "error 12", "show note 1 1", "ok null false null 10 0 0",
		"as 1", "ok", "get z note 9", "ok", "set z text 'a'", "ok", "do", "error 12",
		"as 1", "ok", "get x note 1", "ok", "get x note 9", "ok", "set x due 11", "ok", "do", "error 12", "show note 1 1", "ok null false null 10 0 0",
		"as 1", "ok", "make q cat", "ok", "get x note 1", "ok", "point x reply q", "ok", "set x due 12", "ok", "do", "error 5", "show note 1 1", "ok null false null 12 0 0",
		"as 1", "ok", "get z note 9", "ok", "get x note 1", "ok", "point x reply z", "ok", "do", "error 12",
		"as 1", "ok", "get x1 note 1", "ok", "point x1 reply x1", "ok", "do", "ok", "show note 1 1", "ok null false null 12 0 1",
		"as 1", "ok", "get 0 note 1", "ok", "point 0 reply -", "ok", "do", "ok", "show note 1 1", "ok null false null 12 0 0",
		"as 1", "ok", "set q text 'a'", "error 5", "point q reply -", "error 5", "save q", "error 5", "remove q", "error 5", "make q note", "ok", "point q reply r", "error 5", "save q", "ok", "as 1", "ok", "save q", "error 5", "do", "ok", "find 1 note", "ok 1 1",
	)
}

// P9.16: without a list of acts there is nothing to add to, and a list is played but once.
func TestConsoleState(t *testing.T) {
	talk(t,
		"make a note", "error 17", "get a note 1", "error 17", "set a text 'x'", "error 17", "point a reply -", "error 17", "save a", "error 17", "remove a", "error 17", "do", "error 17",
		"as 1", "ok", "do", "ok", "do", "error 17", "save a", "error 17",
		"as 9", "ok", "make a note", "ok", "do", "error 12", "do", "error 17",
		"as -1", "ok", "do", "error 1",
		"as 2", "ok", "make a note", "ok", "save a", "ok", "as 1", "ok", "do", "ok", "find 0 note", "ok 0",
	)
}

// P9.16: moves.
func TestConsoleMoves(t *testing.T) {
	talk(t,
		"as 1", "ok", "make a note", "ok", "save a", "ok", "do", "ok",
		"places", "ok 1 0 -1 1 2 1 -1 1", "step 1", "error 17", "abort 1", "error 17", "step 3", "error 12", "abort 3", "error 12", "move 3 0", "error 12", "move 1 0", "error 1", "move 1 2", "error 1", "move 1 -1", "error 1",
		"move 1 1", "ok", "move 1 1", "error 17", "places", "ok 1 0 1 2 2 1 -1 1", "step 1", "ok false", "places", "ok 1 0 1 3 2 1 -1 1", "crash", "ok", "places", "ok 1 0 1 2 2 1 -1 1", "step 1", "ok false", "abort 1", "ok", "places", "ok 1 0 -1 1 2 1 -1 1",
		"move 1 1", "ok", "step 1", "ok false", "step 1", "ok false", "places", "ok 1 0 1 4 2 1 -1 1", "as 1", "ok", "make a note", "ok", "do", "error 23", "find 1 note", "ok 1 1",
		"step 1", "ok false", "places", "ok 1 1 0 5 2 1 -1 1", "count 0", "ok 1", "count 1", "ok 1", "as 1", "ok", "make a note", "ok", "save a", "ok", "do", "ok", "step 1", "ok true", "places", "ok 1 1 -1 1 2 1 -1 1", "count 0", "ok 0", "count 1", "ok 2", "find 1 note", "ok 2 1 2", "crash", "ok", "find 1 note", "ok 2 1 2",
	)
}

// P9.16: errors of calls are told, ErrSyntax for all that is no command.
func TestConsoleErrors(t *testing.T) {
	pairs := []string{"find 1 cat", "error 5", "find -1 note", "error 1", "find 1000000000000 note", "ok 0", "show cat 1 1", "error 12", "show note 1 -1", "error 12", "as 999999999999999", "ok", "do", "error 12"}
	for _, line := range []string{
		"", " ", "fly", "As 1", "AS 1", "as", "as ", "as  1", " as 1", "as 1 ", "as x", "as 01", "as +1", "as -0", "as 1.0", "as 1000000000000000", "as 9999999999999999999999", "as 1 2", "as '1'", "as null", "as true", "as\t1", "as 1\r",
		"make", "make a", "make a note 1", "make A note", "make a Note", "make a_ note", "make - note", "make  note", "make a ", "make a 1note", "make a abcdefghijklm", "make a note.x", "make é note",
		"get a note", "get a note x", "get a note 1 1", "get a 1", "get - note 1",
		"set a text", "set a text ", "set a text x", "set a text 'x' ", "set a text  'x'", "set a text 'x", "set a text ''x'", "set a text 'x' 'y'", "set a home.city 'x'", "set a text 'é'", "set a text 01", "set a text @2026-02-30T00:00:00", "set - text 'x'", "set a text '" + long(101) + "'",
		"point a reply", "point a reply ", "point a reply --", "point a reply -1", "point - reply -", "point a reply b c", "save", "save -", "save a b", "remove", "remove a b", "do 1", "do ", "find", "find 1", "find note", "find note 1", "find 1 note 1", "find 1 note ",
		"show note", "show note 1", "show 1 1 note", "show note 1 1 1", "move 1", "move 1 1 1", "move a 1", "step", "step a", "step 1 1", "abort", "abort x", "crash 1", "crash ", "places 1", "count", "count x", "count 0 0", "end", "entity a",
	} {
		pairs = append(pairs, line, "error 14")
	}
	for i := 0; i < len(pairs); i += 200 {
		talk(t, pairs[i:min(i+200, len(pairs))]...)
	}
	// Forms come ahead of all else.
	talk(t, "as 1", "ok", "save A", "error 14", "make abcdefghijklmnopqrstuvwxyz0123456789 abcdefghijkl", "ok", "do", "error 5", "save A", "error 14", "save a", "error 17")
}

// P9.16: the model ahead of the commands.
func TestConsoleModel(t *testing.T) {
	places := "ok 1 0 -1 1 2 1 -1 1\n"
	many := func(n int) string { return strings.Repeat("places\n", n) }
	apart := "field x int\n"
	for i, x := range []struct{ script, want string }{
		{"", "error 14\n"}, {"end", "error 14\n"}, {"end\n", ""}, {"end\nplaces\n", places}, {"entity a\n", "error 14\n"}, {"entity a\nend", "error 14\n"}, {"entity a\nend \nplaces\n", "error 14\n"}, {"places\n", "error 14\n"},
		{"entity a\nend\n", ""}, {"entity a\nend\nplaces\n", places}, {"entity A\nend\nplaces\n", "error 14\n"}, {"entity a\nentity a\nend\nplaces\n", "error 6\n"}, {"entity a of b\nend\n", "error 5\n"}, {"entity a\n\nend\n", "error 14\n"}, {"entity a\nfield x int default 'a'\nend\n", "error 8\n"}, {apart + "end\n", "error 14\n"}, {"end\nend\n", "error 14\n"},
		{long(api.MaxListing+1) + "\nend\n", "error 2\n"},
		{"end\n" + many(api.MaxScript), strings.Repeat(places, api.MaxScript)}, {"end\n" + many(api.MaxScript+1), "error 2\n"}, {"entity A\nend\n" + many(api.MaxScript+1), "error 14\n"}, {"end\n" + strings.Repeat("\n", api.MaxScript), strings.Repeat("error 14\n", api.MaxScript)}, {"end\n" + strings.Repeat("\n", api.MaxScript+1), "error 2\n"},
		// What is not ended by a line feed is no line.
		{"end\nplaces\nplaces", places + "error 14\n"},
	} {
		if got := shards.Run(x.script); got != x.want {
			t.Errorf("%d %.40q: got %.80q want %.80q", i, x.script, got, x.want)
		}
	}
	text, err := schema.Text(wordy(t))
	must(t, err)
	expect(t, shards.Run(text+"end\nplaces\n"), "error 2\n")
}

// P9.16: a script cannot have so many acts that a list is too long.
func TestConsoleBound(t *testing.T) {
	if api.MaxScript >= api.MaxActs-1 {
		t.Error("a list can be too long")
	}
}

// The example of the chapter.
func TestConsoleExample(t *testing.T) {
	expect(t, shards.Run(lines("entity note tenant", "field text text", "end", "as 1", "make a note", "set a text 'hi'", "save a", "do", "find 1 note", "find 2 note")), lines("ok", "ok", "ok", "ok", "ok", "ok 1 1", "ok 0"))
}

// teller is a naive console: it does what commands say by the functions of a cluster. It plays acts without a commit as often as it must know a handle.
type teller struct {
	t      testing.TB
	m      api.Model
	c      *shards.Cluster
	k      api.Token
	is     bool // there is a list of acts
	tenant int
	list   []string // the lines of the list
	labels []string
}

// play plays acts.
func (x *teller) play(acts []api.Act) ([]api.Outcome, api.Errno) {
	if x.tenant == 0 {
		return x.c.Shared(x.k, 0, acts)
	}
	return x.c.Work(x.k, x.tenant, 0, acts)
}

// reply says what the reply to a line is that is a command.
func (x *teller) reply(line string) string {
	w := strings.Split(line, " ")
	number := func(i int) int { n, _ := strconv.Atoi(w[i]); return n }
	told := func(err api.Errno, words ...any) string {
		if err != api.OK {
			return "error " + strconv.Itoa(int(err))
		}
		s := "ok"
		for _, word := range words {
			switch word := word.(type) {
			case int:
				s += " " + strconv.Itoa(word)
			case string:
				s += " " + word
			}
		}
		return s
	}
	switch w[0] {
	case "as":
		x.is, x.tenant, x.list, x.labels = true, number(1), nil, nil
		return "ok"
	case "make", "get", "set", "point", "save", "remove":
		return told(x.add(line))
	case "do":
		if !x.is {
			return told(api.ErrState)
		}
		x.is = false
		outcomes, err := x.play(append(x.acts(), api.Act{Kind: api.ActCommit}))
		for _, o := range slices.Backward(outcomes) {
			if o.Error != api.OK {
				err = o.Error
			}
		}
		return told(err)
	case "find":
		rows, err := x.c.Find(x.k, 0, api.Find{Entity: w[2], Tenant: number(1), Limit: -1}, nil)
		words := []any{len(rows)}
		for _, r := range rows {
			words = append(words, r[2].N)
		}
		return told(err, words...)
	case "show":
		for _, o := range x.c.World().Objects {
			family, _ := schema.Family(x.m, w[1])
			if slices.Contains(family, o.Entity) && o.Tenant == number(2) && o.ID == number(3) {
				var words []any
				for _, v := range o.Values {
					words = append(words, value.Show(v))
				}
				for _, id := range o.Ones {
					words = append(words, id)
				}
				return told(api.OK, words...)
			}
		}
		return told(api.ErrNone)
	case "move":
		return told(x.c.Move(number(1), number(2)))
	case "step":
		home, err := x.c.Step(number(1))
		return told(err, strconv.FormatBool(home))
	case "abort":
		return told(x.c.Abort(number(1)))
	case "crash":
		x.c.Crash()
		return "ok"
	case "places":
		var words []any
		for _, p := range x.c.Places() {
			words = append(words, p.Tenant, p.Shard, p.To, p.State)
		}
		return told(api.OK, words...)
	}
	d, err := x.c.Rows(number(1))
	n := 0
	for _, table := range d.Tables {
		n += len(table.Rows)
	}
	return told(err, n)
}

// add adds a line to the list.
func (x *teller) add(line string) api.Errno {
	w := strings.Split(line, " ")
	switch {
	case !x.is:
		return api.ErrState
	case w[0] == "make" || w[0] == "get":
		x.labels = append(x.labels, w[1])
	case !slices.Contains(x.labels, w[1]), w[0] == "point" && w[3] != "-" && !slices.Contains(x.labels, w[3]):
		return api.ErrName
	}
	x.list = append(x.list, line)
	return api.OK
}

// acts returns the acts of the list.
func (x *teller) acts() []api.Act {
	var l []api.Act
	handles := map[string]int{}
	for _, line := range x.list {
		w := strings.SplitN(line, " ", 4)
		a := api.Act{Kind: map[string]int{"make": api.ActMake, "get": api.ActGet, "set": api.ActSet, "point": api.ActPoint, "save": api.ActSave, "remove": api.ActRemove}[w[0]], A: handles[w[1]]}
		switch w[0] {
		case "make", "get":
			a.A, a.Entity = 0, w[2]
			if w[0] == "get" {
				a.N, _ = strconv.Atoi(w[3])
			}
			l = append(l, a)
			handles[w[1]] = 4444 // not given
			if outcomes, err := x.play(l); err == api.OK {
				if last := outcomes[len(outcomes)-1]; last.Error == api.OK {
					handles[w[1]] = last.Handles[0]
				}
			}
			continue
		case "set":
			a.Name = w[2]
			a.Value, _ = value.Read(w[3])
		case "point":
			a.Name, a.B = w[2], handles[w[3]]
		}
		l = append(l, a)
	}
	return l
}

// command makes a command.
func (r *maker) command() string {
	n := func(most int) string { return strconv.Itoa(r.Intn(most)) }
	l := func() string { return pick(r, "a", "b", "c", "d2") }
	e := func() string { return pick(r, "book", "note", "memo") }
	v := func() string {
		return pick(r, "null", "true", "5", "'x'", "'y z'", "7", "@2026-11-17T09:05:00", "-1", "'it''s'")
	}
	switch r.Intn(26) {
	case 0, 1:
		return "as " + n(4)
	case 2, 3, 4:
		return "make " + l() + " " + e()
	case 5, 6, 7:
		return "get " + l() + " " + e() + " " + n(4)
	case 8, 9, 10:
		return "set " + l() + " " + pick(r, "name", "age", "text", "done", "seen", "due") + " " + v()
	case 11, 12:
		return "point " + l() + " " + pick(r, "next", "book", "reply") + " " + pick(r, "a", "b", "c", "-")
	case 13, 14, 15:
		return "save " + l()
	case 16:
		return "remove " + l()
	case 17, 18, 19:
		return "do"
	case 20:
		return "find " + n(4) + " " + e()
	case 21:
		return "show " + e() + " " + n(3) + " " + n(4)
	case 22:
		return "move " + n(4) + " " + n(3)
	case 23:
		return "step " + n(3)
	case 24:
		return pick(r, "abort "+n(3), "crash")
	}
	return pick(r, "places", "count "+n(3))
}

// P9.16: scripts at random have the replies that the functions of a cluster give.
func TestRandomConsole(t *testing.T) {
	replies := map[string]int{}
	m := model(t, strings.Split(strings.TrimSuffix(pets(), "\n"), "\n")...)
	randomly(t, 40, func(t *testing.T, r *maker) {
		x := &teller{t: t, m: m, c: cluster(t, m, 2)}
		x.k, _ = cache.Issue("s", nil, 0)
		var commands, wanted []string
		for range 200 {
			commands = append(commands, r.command())
			wanted = append(wanted, x.reply(commands[len(commands)-1]))
			word, _, _ := strings.Cut(wanted[len(wanted)-1], " ")
			replies[word]++
		}
		got := strings.Split(shards.Run(pets()+"end\n"+lines(commands...)), "\n")
		for i := range wanted {
			if got[i] != wanted[i] {
				t.Fatalf("%q\n%q: got %q want %q", commands[:i], commands[i], got[i], wanted[i])
			}
		}
	})
	if !testing.Short() && (replies["ok"] < 1000 || replies["error"] < 500) {
		t.Error(replies)
	}
}

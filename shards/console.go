package shards

import (
	"strconv"
	"strings"

	"dumbwaiter/api"
	"dumbwaiter/cache"
	"dumbwaiter/listing"
	"dumbwaiter/schema"
	"dumbwaiter/value"
)

// Run executes the lines of a script.
func Run(script string) string {
	text, rest, ok := cutModel(script)
	if !ok {
		return failed(api.ErrSyntax)
	}
	x, err := newConsole(text)
	if err != api.OK {
		return failed(err)
	}
	lines := linesOf(rest)
	if len(lines) > api.MaxScript {
		return failed(api.ErrLarge)
	}
	var b strings.Builder
	for _, line := range lines {
		b.WriteString(x.reply(line))
	}
	return b.String()
}

// cutLine returns the first line of a text with its line feed, and what is behind it. (Without a line feed, the rest is no line.)
func cutLine(s string) (line, rest string, ok bool) {
	i := strings.IndexByte(s, '\n')
	if i < 0 {
		return s, "", false
	}
	return s[:i+1], s[i+1:], true
}

// cutModel returns the lines of a script ahead of the line end, and those behind it.
func cutModel(script string) (text, rest string, ok bool) {
	rest = script
	for {
		line, behind, ok := cutLine(rest)
		switch {
		case !ok:
			return "", "", false
		case line == "end\n":
			return script[:len(script)-len(rest)], behind, true
		}
		rest = behind
	}
}

// linesOf returns the lines of a text with their line feeds, and what is left behind them.
func linesOf(s string) []string {
	var l []string
	for s != "" {
		var line string
		line, s, _ = cutLine(s)
		l = append(l, line)
	}
	return l
}

// failed returns the reply for an error.
func failed(err api.Errno) string { return "error " + strconv.Itoa(int(err)) + "\n" }

// console is a cluster with a token for all its tenants, and a list of acts.
type console struct {
	cluster *Cluster
	token   api.Token
	list    *list
}

// newConsole returns a console for a model, which is told by its text.
func newConsole(text string) (*console, api.Errno) {
	m, err := schema.Read(text)
	if err != api.OK {
		return nil, err
	}
	const secret = "s"
	c, err := New(m, 2, secret)
	if err != api.OK {
		return nil, err
	}
	c.Add(1, 0)
	c.Add(2, 1)
	token, _ := cache.Issue(secret, nil, api.MaxMoment)
	return &console{cluster: c, token: token}, api.OK
}

// words are the words of an answer.
type words []string

// number adds a number.
func (w words) number(n int) words { return append(w, strconv.Itoa(n)) }

// reply executes a line, and returns the line of the reply.
func (x *console) reply(line string) string {
	line, isLine := strings.CutSuffix(line, "\n")
	command, operands, ok := readCommand(line)
	if !ok || !isLine {
		return failed(api.ErrSyntax)
	}
	w, err := command.run(x, operands)
	if err != api.OK {
		return failed(err)
	}
	return strings.Join(append([]string{"ok"}, w...), " ") + "\n"
}

// command is a command: the forms of its words, one letter for each, and what it does.
type command struct {
	forms string
	run   func(x *console, o operands) (words, api.Errno)
}

// operands are the words of a line behind the first one, by their forms.
type operands struct {
	numbers []int
	names   []string
	labels  []string
	value   api.Value
}

// readCommand returns the command of a line and its operands.
func readCommand(line string) (command, operands, bool) {
	word, rest, more := strings.Cut(line, " ")
	c, known := commands()[word]
	if !known {
		return c, operands{}, false
	}
	var o operands
	for i := range len(c.forms) {
		if !more {
			return c, operands{}, false
		}
		word := rest
		if c.forms[i] != 'V' { // a value goes to the end of the line
			word, rest, more = strings.Cut(rest, " ")
		} else {
			more = false
		}
		if !o.add(c.forms[i], word) {
			return c, operands{}, false
		}
	}
	return c, o, !more
}

// add adds a word of a form: N a number, E a name, L a label, P a label or -, V a value.
func (o *operands) add(form byte, word string) bool {
	switch form {
	case 'N':
		v, err := value.Read(word)
		o.numbers = append(o.numbers, v.N)
		return err == api.OK && v.Kind == api.Int
	case 'E':
		o.names = append(o.names, word)
		return isName(word)
	case 'V':
		v, err := value.Read(word)
		o.value = v
		return err == api.OK
	}
	o.labels = append(o.labels, word)
	return isLabel(word) || form == 'P' && word == "-"
}

// isLabel reports whether a word consists of letters and digits.
func isLabel(s string) bool { return listing.Consists(s, "") }

// isName reports whether a word is a name.
func isName(s string) bool { return len(s) <= api.MaxName && isLabel(s) && listing.IsLetter(s[0]) }

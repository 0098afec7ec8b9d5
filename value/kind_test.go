package value_test

import (
	"strings"
	"testing"

	"dumbwaiter/api"
	"dumbwaiter/value"
)

// kindColumns has a column of each kind: null, bool, int, text, moment, and further ones.
func kindColumns() []api.Cell {
	return []api.Cell{
		{Name: "n", Kind: api.Null}, {Name: "b", Kind: api.Bool}, {Name: "i", Kind: api.Int}, {Name: "t", Kind: api.Text}, {Name: "m", Kind: api.Moment},
		{Source: "x", Name: "i", Kind: api.Text}, {Source: "x", Name: "i", Kind: api.Int}, {Source: "x", Name: "only", Kind: api.Bool},
	}
}

const kindNames = "nbitm"

// signatures are the kinds of Args and of the result of each operation, by P1.13.
func signatures() map[int]string {
	same := "bb>b ii>b tt>b mm>b"
	return map[int]string{
		api.OpNot: "b>b", api.OpAnd: "bb>b", api.OpOr: "bb>b",
		api.OpEqual: same, api.OpUnequal: same, api.OpLess: same, api.OpAtMost: same, api.OpGreater: same, api.OpAtLeast: same, api.OpSame: same,
		api.OpNull: "b>b i>b t>b m>b",
		api.OpAdd:  "ii>i mi>m", api.OpSub: "ii>i mi>m mm>i",
		api.OpMul: "ii>i", api.OpDiv: "ii>i", api.OpMod: "ii>i", api.OpNeg: "i>i",
		api.OpConcat: "tt>t", api.OpLike: "tt>b", api.OpLower: "t>t", api.OpUpper: "t>t", api.OpLength: "t>i", api.OpPart: "tii>t",
		api.OpCoalesce: "bb>b ii>i tt>t mm>m",
		api.OpTrunc:    "m>m", api.OpUnit: "m>i",
	}
}

// tuples are all words of a length of the names of kinds.
func tuples(length int) []string {
	var l []string
	for _, w := range words(kindNames, length) {
		if len(w) == length {
			l = append(l, w)
		}
	}
	return l
}

// columnsNamed are the columns with the names of kinds.
func columnsNamed(kinds string) []api.Expr {
	var l []api.Expr
	for _, c := range kinds {
		l = append(l, column(string(c)))
	}
	return l
}

// fitting returns the results of the signatures that Args of these kinds fit.
func fitting(signature, kinds string) string {
	results := ""
	for _, s := range strings.Fields(signature) {
		wanted, result, _ := strings.Cut(s, ">")
		ok := len(wanted) == len(kinds)
		for i := 0; ok && i < len(kinds); i++ {
			ok = kinds[i] == 'n' || kinds[i] == wanted[i]
		}
		if ok && !strings.Contains(results, result) {
			results += result
		}
	}
	return results
}

// wantedKind returns the kind of an operation, -1 if there is none.
func wantedKind(o int, kinds string) int {
	results := fitting(signatures()[o], kinds)
	switch {
	case results == "":
		return -1
	case (o == api.OpAdd || o == api.OpSub) && strings.Contains(kinds, "n"):
		return api.Null
	case o == api.OpCoalesce && len(results) > 1:
		return api.Null
	}
	return strings.IndexByte(kindNames, results[0])
}

// P1.13, P1.14
func TestKindOfOperations(t *testing.T) {
	for o := range signatures() {
		count := strings.IndexByte(signatures()[o], '>')
		for _, kinds := range tuples(count) {
			e := op(o, columnsNamed(kinds)...)
			if o == api.OpTrunc || o == api.OpUnit {
				e.N = api.Day
			}
			got, err := value.KindOf(e, kindColumns(), nil)
			want := wantedKind(o, kinds)
			if want < 0 && (err != api.ErrType || got != 0) || want >= 0 && (err != api.OK || got != want) {
				t.Error(o, kinds, got, err, want)
			}
		}
	}
	if len(signatures()) != api.OpCast-1 {
		t.Error("operations without a signature")
	}
}

// P1.13, P1.14
func TestKindOfCasts(t *testing.T) {
	for from := range kindNames {
		for to := api.Bool; to <= api.Moment; to++ {
			got, err := value.KindOf(opN(api.OpCast, to, column(kindNames[from:from+1])), kindColumns(), nil)
			if from == api.Null || value.Can(from, to) {
				if got != to || err != api.OK {
					t.Error(from, to, got, err)
				}
			} else if got != 0 || err != api.ErrType {
				t.Error(from, to, got, err)
			}
		}
	}
}

// P1.13, P1.14
func TestKindOfLists(t *testing.T) {
	for _, kinds := range tuples(3) {
		args := columnsNamed(kinds)
		common := fitting("bbb>b iii>i ttt>t mmm>m", kinds)
		kind, inErr := value.KindOf(in(args...), kindColumns(), nil)
		if common == "" && (inErr != api.ErrType || kind != 0) || common != "" && (inErr != api.OK || kind != api.Bool) {
			t.Error("in", kinds, kind, inErr)
		}
		want, wantErr := 0, api.ErrType
		if common != "" {
			want, wantErr = strings.IndexByte(kindNames, common[0]), api.OK
		}
		if kinds == "nnn" {
			want = api.Null
		}
		if kind, err := value.KindOf(op(api.OpCoalesce, args...), kindColumns(), nil); kind != want || err != wantErr {
			t.Error("coalesce", kinds, kind, err)
		}
	}
	for _, kinds := range tuples(5) {
		want, wantErr := 0, api.ErrType
		conditions := strings.Contains("nb", kinds[0:1]) && strings.Contains("nb", kinds[2:3])
		values := fitting("bbb>b iii>i ttt>t mmm>m", kinds[1:2]+kinds[3:4]+kinds[4:5])
		if conditions && values != "" {
			want, wantErr = strings.IndexByte(kindNames, values[0]), api.OK
			if len(values) > 1 {
				want = api.Null
			}
		}
		if kind, err := value.KindOf(cases(columnsNamed(kinds)...), kindColumns(), nil); kind != want || err != wantErr {
			t.Error("case", kinds, kind, err)
		}
	}
}

// P1.14
func TestKindOfLeaves(t *testing.T) {
	for _, v := range ordered() {
		if kind, err := value.KindOf(lit(v), nil, nil); kind != v.Kind || err != api.OK {
			t.Error(v, kind, err)
		}
	}
	params := []int{api.Moment, api.Bool}
	for _, x := range []struct {
		e    api.Expr
		kind int
		err  api.Errno
	}{
		{param(0), api.Moment, api.OK}, {param(1), api.Bool, api.OK}, {param(2), 0, api.ErrArg}, {param(-1), 0, api.ErrArg}, {param(1<<63 - 1), 0, api.ErrArg},
		{column("i"), api.Int, api.OK}, {column("n"), api.Null, api.OK}, {columnOf("x", "i"), api.Text, api.OK}, {column("only"), 0, api.ErrName}, {columnOf("x", "b"), 0, api.ErrName}, {columnOf("y", "i"), 0, api.ErrName}, {column(""), 0, api.ErrName},
	} {
		if kind, err := value.KindOf(x.e, kindColumns(), params); kind != x.kind || err != x.err {
			t.Error(x, kind, err)
		}
	}
}

// with returns an expression with a change.
func with(e api.Expr, change func(*api.Expr)) api.Expr {
	change(&e)
	return e
}

// failure is an expression with its error.
type failure struct {
	e    api.Expr
	want api.Errno
}

// partErrors are expressions in which one part is not of its form, with the errors that KindOf and ExprText share.
func partErrors() []failure {
	i, b := column("i"), column("b")
	l := []failure{
		{api.Expr{}, api.ErrKind}, {api.Expr{Kind: -1}, api.ErrKind}, {api.Expr{Kind: 7}, api.ErrKind}, {api.Expr{Kind: api.XAgg, Op: api.AggRows}, api.ErrKind}, {api.Expr{Kind: api.XSome}, api.ErrKind}, {api.Expr{Kind: 1<<63 - 1}, api.ErrKind},
		{op(0, i), api.ErrKind}, {op(28, i), api.ErrKind}, {op(-1, i), api.ErrKind}, {op(1<<63-1, i), api.ErrKind}, {op(-1<<63, i), api.ErrKind},
		{op(api.OpNot), api.ErrForm}, {op(api.OpNot, b, b), api.ErrForm}, {op(api.OpAdd, i), api.ErrForm}, {op(api.OpAdd, i, i, i), api.ErrForm}, {op(api.OpPart, column("t"), i), api.ErrForm}, {op(api.OpPart, column("t"), i, i, i), api.ErrForm}, {op(api.OpCoalesce, i), api.ErrForm}, {op(api.OpCoalesce), api.ErrForm},
		{cases(), api.ErrForm}, {cases(b), api.ErrForm}, {cases(b, i), api.ErrForm}, {cases(b, i, b, i), api.ErrForm}, {in(), api.ErrForm}, {in(i), api.ErrForm},
		{opN(api.OpAdd, 1, i, i), api.ErrForm}, {opN(api.OpLength, 1, column("t")), api.ErrForm},
		{opN(api.OpTrunc, 0, column("m")), api.ErrArg}, {opN(api.OpTrunc, 7, column("m")), api.ErrArg}, {opN(api.OpUnit, 0, column("m")), api.ErrArg}, {opN(api.OpUnit, 7, column("m")), api.ErrArg}, {opN(api.OpCast, 0, i), api.ErrArg}, {opN(api.OpCast, 5, i), api.ErrArg}, {opN(api.OpCast, -1, i), api.ErrArg},
		{lit(api.Value{N: 1}), api.ErrForm}, {lit(api.Value{S: "a"}), api.ErrForm}, {lit(api.Value{Kind: 5}), api.ErrForm}, {lit(api.Value{Kind: -1}), api.ErrForm}, {lit(api.Value{Kind: api.Int, S: "a"}), api.ErrForm}, {lit(integer(api.MaxInt + 1)), api.ErrArg}, {lit(text(long(101))), api.ErrLarge}, {lit(text(long(101) + "\n")), api.ErrLarge}, {lit(text("\n")), api.ErrArg}, {lit(boolean(2)), api.ErrArg}, {lit(moment(-1)), api.ErrArg},
		// Errors of Args come ahead of those of the part around them, and of several Args that of the first one.
		{op(api.OpNot, op(api.OpAdd, i)), api.ErrForm}, {op(99, op(api.OpAdd, i)), api.ErrForm}, {with(lit(null), func(e *api.Expr) { e.Args = []api.Expr{{}} }), api.ErrKind}, {api.Expr{Args: []api.Expr{lit(text("\n"))}}, api.ErrArg}, {op(api.OpAdd, lit(text(long(101))), api.Expr{}), api.ErrLarge}, {op(api.OpAdd, i, op(api.OpAdd, i, api.Expr{})), api.ErrKind},
		// The order of the errors of one part.
		{with(op(99), func(e *api.Expr) { e.N = 1 }), api.ErrKind}, {with(lit(text(long(101))), func(e *api.Expr) { e.N = 1 }), api.ErrForm}, {opN(api.OpTrunc, 0), api.ErrForm}, {opN(api.OpCast, 9, i, i), api.ErrForm}, {opN(api.OpTrunc, 0, i), api.ErrArg},
	}
	for _, e := range []api.Expr{lit(integer(1)), param(0), i, op(api.OpNeg, i), opN(api.OpCast, api.Text, i), cases(b, i, i), in(i, i)} {
		l = append(l, failure{with(e, func(e *api.Expr) { e.Sub = []api.Select{{}} }), api.ErrKind})
		l = append(l, failure{with(e, func(e *api.Expr) { e.Sub, e.Distinct = []api.Select{{}}, true }), api.ErrKind})
		for _, change := range unusedFields(e) {
			l = append(l, failure{with(e, change), api.ErrForm})
		}
	}
	return l
}

// unusedFields returns changes of each field that a part does not use.
func unusedFields(e api.Expr) []func(*api.Expr) {
	l := []func(*api.Expr){
		func(e *api.Expr) { e.Distinct = true },
		func(e *api.Expr) { e.Group = []api.Expr{column("i")} },
		func(e *api.Expr) { e.Order = []api.Order{{}} },
	}
	if e.Kind != api.XOp {
		l = append(l, func(e *api.Expr) { e.Op = api.OpNot }, func(e *api.Expr) { e.Op = -1 })
	}
	if e.Kind != api.XParam && e.Op != api.OpCast {
		l = append(l, func(e *api.Expr) { e.N = 1 }, func(e *api.Expr) { e.N = -1 })
	}
	if e.Kind != api.XValue {
		l = append(l, func(e *api.Expr) { e.Value = integer(0) }, func(e *api.Expr) { e.Value.N = 1 }, func(e *api.Expr) { e.Value.S = "a" })
	}
	if e.Kind != api.XColumn {
		l = append(l, func(e *api.Expr) { e.Source = "x" }, func(e *api.Expr) { e.Name = "i" })
	}
	if len(e.Args) == 0 {
		l = append(l, func(e *api.Expr) { e.Args = []api.Expr{column("i")} })
	}
	return l
}

// P1.14
func TestKindOfErrorsOfParts(t *testing.T) {
	for _, x := range partErrors() {
		if kind, err := value.KindOf(x.e, kindColumns(), []int{api.Int}); kind != 0 || err != x.want {
			t.Error(x, kind, err)
		}
		around := op(api.OpNot, op(api.OpNull, x.e))
		if kind, err := value.KindOf(around, kindColumns(), []int{api.Int}); kind != 0 || err != x.want {
			t.Error("around", x, kind, err)
		}
	}
}

// P1.14
func TestKindOfOrderOfErrors(t *testing.T) {
	missing := column("missing")
	for _, x := range []failure{
		{op(api.OpAdd, missing, param(9)), api.ErrName}, {op(api.OpAdd, param(9), missing), api.ErrArg}, {op(api.OpAdd, column("t"), missing), api.ErrName},
		{op(api.OpNot, op(api.OpNeg, column("t"))), api.ErrType}, {op(99, missing), api.ErrName}, {op(api.OpAdd, missing), api.ErrName}, {op(api.OpAnd, op(api.OpNeg, column("t")), api.Expr{}), api.ErrType}, {op(api.OpAdd, column("t")), api.ErrForm},
		{with(param(9), func(e *api.Expr) { e.Name = "a" }), api.ErrForm}, {with(missing, func(e *api.Expr) { e.N = 1 }), api.ErrForm},
	} {
		if kind, err := value.KindOf(x.e, kindColumns(), []int{api.Int}); kind != 0 || err != x.want {
			t.Error(x, kind, err)
		}
	}
	for _, kind := range []int{0, 5, -1} {
		if got, err := value.KindOf(nots(25), kindColumns(), []int{api.Int, kind}); got != 0 || err != api.ErrKind {
			t.Error(kind, got, err)
		}
		if got, err := value.KindOf(column("i"), kindColumns(), []int{kind, api.Int}); got != 0 || err != api.ErrKind {
			t.Error(kind, got, err)
		}
	}
}

// P1.14
func TestKindOfLarge(t *testing.T) {
	for _, x := range []failure{
		{nots(24), api.OK}, {nots(25), api.ErrLarge}, {nots(1000), api.ErrLarge},
		{wide(400), api.OK}, {wide(401), api.ErrLarge}, {wide(100000), api.ErrLarge},
		{op(api.OpAdd, wide(200), wide(199)), api.OK}, {op(api.OpAdd, wide(200), wide(200)), api.ErrLarge},
		{op(api.OpAnd, nots(23), nots(23)), api.OK}, {op(api.OpAnd, column("b"), nots(24)), api.ErrLarge}, {op(api.OpAnd, nots(24), api.Expr{}), api.ErrLarge},
		{op(api.OpAdd, api.Expr{}, wide(400)), api.ErrLarge},
	} {
		if _, err := value.KindOf(x.e, kindColumns(), nil); err != x.want {
			t.Error(x.want, err)
		}
		if _, err := value.Eval(x.e, kindColumns(), make([]api.Value, 8), nil); err != x.want {
			t.Error("eval", x.want, err)
		}
		if _, err := value.ExprText(x.e); err != x.want {
			t.Error("text", x.want, err)
		}
	}
}

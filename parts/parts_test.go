package parts_test

import (
	"reflect"
	"slices"
	"testing"

	"dumbwaiter/api"
	"dumbwaiter/parts"
	"dumbwaiter/same"
)

func lit(n int) api.Expr { return api.Expr{Kind: api.XValue, N: n} }

// full is an expression with parts in each list, whose numbers begin with n.
func full(n int) api.Expr {
	return api.Expr{
		Kind: api.XWindow, N: n, Args: []api.Expr{lit(n + 1)}, Group: []api.Expr{lit(n + 2)}, Order: []api.Order{{Expr: lit(n + 3), Desc: true}},
		Sub: []api.Select{{Items: []api.Item{{Name: "x", Expr: lit(n + 4)}}, Offset: n}},
	}
}

// whole is a statement with parts in each list.
func whole() api.Statement {
	return api.Statement{
		Kind: api.StSelect, Params: []int{1, 2}, Table: "t", Name: "n", Columns: []string{"c", "d"},
		Select: []api.Select{{
			Distinct: true, Items: []api.Item{{Name: "i", Expr: full(10)}}, From: []api.Source{{Name: "f", Sub: []api.Select{{Where: []api.Expr{full(20)}}}}},
			Joins: []api.Join{{Left: true, Source: api.Source{Name: "j", Table: "t"}, On: full(30)}}, Where: []api.Expr{full(40)}, Group: []api.Expr{full(50)}, Having: []api.Expr{full(60)},
			Order: []api.Order{{Expr: full(70), Last: true}}, Limit: 7, Offset: 8,
		}},
		Rows: [][]api.Expr{{full(80), full(90)}, {full(100)}}, Sets: []api.Expr{full(110)}, Where: []api.Expr{full(120)},
	}
}

// All parts are visited, those around others ahead of them.
func TestAll(t *testing.T) {
	var numbers []int
	counts := map[string]int{}
	parts.All(whole(), func(p parts.Part) {
		switch {
		case p.Expr != nil:
			numbers = append(numbers, p.Expr.N)
			counts["expr"]++
		case p.Query != nil:
			counts["query"]++
		case p.Source != nil:
			counts["source"]++
		case p.Item != nil:
			counts["item"]++
		case p.Order != nil:
			counts["order"]++
		}
	})
	var want []int
	for n := 10; n <= 120; n += 10 {
		want = append(want, n, n+1, n+2, n+3, n+4)
	}
	if !slices.Equal(numbers, want) {
		t.Error(numbers)
	}
	if want := (map[string]int{"expr": 60, "query": 14, "source": 2, "item": 13, "order": 13}); !reflect.DeepEqual(counts, want) {
		t.Error(counts)
	}
}

// Walk goes no deeper where it is told so.
func TestWalk(t *testing.T) {
	e := full(10)
	count := 0
	parts.Part{Expr: &e}.Walk(func(p parts.Part) bool {
		count++
		return p.Query == nil
	})
	if count != 6 {
		t.Error(count)
	}
}

// The number of parts, and of those within one another.
func TestExceed(t *testing.T) {
	for _, x := range []struct {
		most, levels int
		want         bool
	}{{102, 7, false}, {101, 7, true}, {102, 6, true}, {1 << 40, 1 << 40, false}, {0, 0, true}} {
		if got := parts.Exceed(whole(), x.most, x.levels); got != x.want {
			t.Error(x, got)
		}
	}
	if parts.Exceed(api.Statement{Columns: []string{"c"}}, 0, 0) {
		t.Error("a statement without parts")
	}
	// A statement with very many levels is not gone through.
	e := lit(1)
	for range 1000000 {
		e = api.Expr{Args: []api.Expr{e}}
	}
	if !parts.Exceed(api.Statement{Where: []api.Expr{e}}, 1<<40, 80) {
		t.Error("levels")
	}
}

// equal reports whether two statements are equal.
func equal(a, b api.Statement) bool {
	return slices.Equal(a.Params, b.Params) && slices.Equal(a.Columns, b.Columns) && a.Kind == b.Kind && a.Table == b.Table && a.Name == b.Name &&
		same.Selects(a.Select, b.Select) && slices.EqualFunc(a.Rows, b.Rows, same.Exprs) && same.Exprs(a.Sets, b.Sets) && same.Exprs(a.Where, b.Where)
}

// wipe overwrites all elements of lists within a value.
func wipe(v reflect.Value) {
	switch v.Kind() {
	case reflect.Slice:
		for i := range v.Len() {
			wipe(v.Index(i))
			v.Index(i).SetZero()
		}
	case reflect.Struct:
		for i := range v.NumField() {
			wipe(v.Field(i))
		}
	}
}

// Z2: what is made shares no memory with what it is made of.
func TestRewriter(t *testing.T) {
	st := whole()
	copied := parts.Rewriter{}.Statement(st)
	wipe(reflect.ValueOf(&st).Elem())
	if !equal(copied, whole()) {
		t.Error(copied)
	}
	// Inner parts come first, and each expression once.
	var numbers []int
	offsets := 0
	made := parts.Rewriter{
		Expr: func(e api.Expr) api.Expr {
			numbers = append(numbers, e.N)
			for _, arg := range e.Args {
				if arg.N < 1000 {
					t.Error(arg)
				}
			}
			e.N += 1000
			return e
		},
		Query: func(q api.Select) api.Select {
			offsets++
			q.Offset++
			return q
		},
	}.Statement(whole())
	if len(numbers) != 60 || offsets != 14 || made.Select[0].Offset != 9 || made.Rows[1][0].Sub[0].Items[0].Expr.N != 1104 {
		t.Error(numbers, offsets, made)
	}
	slices.Sort(numbers)
	if len(slices.Compact(numbers)) != 60 {
		t.Error(numbers)
	}
}

package schema_test

import (
	"reflect"
	"strings"
	"sync"
	"testing"

	"dumbwaiter/api"
	"dumbwaiter/schema"
)

// outcome is the results of a call, by the name of the function.
type outcome struct {
	name    string
	results []any
}

// err is the error of a call, if it has one.
func (o outcome) err() api.Errno {
	err, _ := o.results[len(o.results)-1].(api.Errno)
	return err
}

// callAll calls all functions of the package.
func callAll(m, m2 api.Model, s api.Schema, d api.Data, w api.World, entity, name, text string) []outcome {
	var l []outcome
	add := func(name string, f any, args ...any) {
		var in []reflect.Value
		for _, a := range args {
			in = append(in, reflect.ValueOf(a))
		}
		o := outcome{name: name}
		for _, out := range reflect.ValueOf(f).Call(in) {
			o.results = append(o.results, out.Interface())
		}
		l = append(l, o)
	}
	add("Check", schema.Check, m)
	add("Text", schema.Text, m)
	add("Read", schema.Read, text)
	add("Equal", schema.Equal, m, m2)
	add("Root", schema.Root, m, entity)
	add("Family", schema.Family, m, entity)
	add("Slots", schema.Slots, m, entity)
	add("Formulas", schema.Formulas, m, entity)
	add("Relations", schema.Relations, m, entity)
	add("Owner", schema.Owner, m, entity, name)
	add("Tables", schema.Tables, m)
	add("Column", schema.Column, m, entity, name)
	add("CheckSchema", schema.CheckSchema, s)
	add("SchemaText", schema.SchemaText, s)
	add("SchemaRead", schema.SchemaRead, text)
	add("Order", schema.Order, s)
	add("CheckData", schema.CheckData, s, d)
	add("CheckWorld", schema.CheckWorld, m, w)
	add("Rows", schema.Rows, m, w)
	add("World", schema.World, m, d)
	add("Living", schema.Living, m, w)
	return l
}

// callZoo calls all functions with right arguments.
func callZoo(t testing.TB, text string) []outcome {
	m := zoo(t)
	s, _ := schema.Tables(m)
	d, _ := schema.Rows(m, zooWorld())
	return callAll(m, m, s, d, zooWorld(), "person", "tags", text)
}

// Z2: arguments are not modified, nor is the memory behind them.
func TestArgumentsStayAsTheyAre(t *testing.T) {
	m, modelChanged := spaced(zoo(t))
	s, schemaChanged := spaced(readSchema(t, zooTables()...))
	rows, _ := schema.Rows(zoo(t), zooWorld())
	d, dataChanged := spaced(rows)
	w, worldChanged := spaced(zooWorld())
	for _, o := range append(callAll(m, m, s, d, w, "puppy", "rival", ""), callAll(m, m, s, d, w, "person", "tags", "")...) {
		// No name is that of a slot and of a RelPairs.
		if o.err() != api.OK && o.name != "Owner" && o.name != "Column" {
			t.Error(o)
		}
	}
	if modelChanged() || schemaChanged() || dataChanged() || worldChanged() {
		t.Error(modelChanged(), schemaChanged(), dataChanged(), worldChanged())
	}
}

// Z2: results share no memory with arguments, with other results, or within themselves.
func TestResultsAreNew(t *testing.T) {
	m, w := zoo(t), zooWorld()
	s, _ := schema.Tables(m)
	d, _ := schema.Rows(m, w)
	modelBefore, schemaBefore, dataBefore, worldBefore := clone(m), clone(s), clone(d), clone(w)
	for _, text := range []string{lines(zooLines()...), lines(zooTables()...)} {
		want, kept := callAll(m, m, s, d, w, "worker", "boss", text), callAll(m, m, s, d, w, "worker", "boss", text)
		for i, o := range callAll(m, m, s, d, w, "worker", "boss", text) {
			for _, x := range o.results {
				scribble(x)
			}
			if !same(m, modelBefore) || !same(s, schemaBefore) || !same(d, dataBefore) || !same(w, worldBefore) {
				t.Fatal("arguments share memory with", o.name)
			}
			for k, x := range kept[i].results {
				if !same(x, want[i].results[k]) {
					t.Error("results share memory", o.name)
				}
				checkApart(t, o.name, x)
			}
		}
	}
}

// checkApart checks that no two slices within a value share memory, spare memory too.
func checkApart(t *testing.T, name string, x any) {
	t.Helper()
	seen := map[uintptr]bool{}
	var visit func(v reflect.Value)
	visit = func(v reflect.Value) {
		switch v.Kind() {
		case reflect.Slice:
			size := v.Type().Elem().Size()
			for i := range v.Cap() {
				if at := v.Pointer() + uintptr(i)*size; seen[at] {
					t.Error("slices share memory", name)
				} else {
					seen[at] = true
				}
			}
			for i := range v.Len() {
				visitInside(v.Index(i), visit)
			}
		case reflect.Struct:
			visitInside(v, visit)
		}
	}
	visit(reflect.ValueOf(x))
}

// visitInside visits the slices and structs of a value.
func visitInside(v reflect.Value, visit func(v reflect.Value)) {
	switch v.Kind() {
	case reflect.Slice:
		visit(v)
	case reflect.Struct:
		for i := range v.NumField() {
			visitInside(v.Field(i), visit)
		}
	}
}

// Z4: empty and nil slices are equivalent.
func TestEmptyAndNil(t *testing.T) {
	m := zoo(t)
	s, _ := schema.Tables(m)
	d, _ := schema.Rows(m, zooWorld())
	w := zooWorld()
	want := callAll(m, m, s, d, w, "worker", "boss", "")
	for i, o := range callAll(swapEmpty(m), m, swapEmpty(s), swapEmpty(d), swapEmpty(w), "worker", "boss", "") {
		if !sameResults(o.results, want[i].results) {
			t.Error(o.name)
		}
	}
}

// sameResults compares results one by one.
func sameResults(a, b []any) bool {
	ok := len(a) == len(b)
	for i := 0; ok && i < len(a); i++ {
		ok = same(a[i], b[i])
	}
	return ok
}

// swapEmpty returns a copy in which nil slices are empty ones, and the other way round.
func swapEmpty[T any](x T) T {
	c := clone(x)
	var visit func(v reflect.Value)
	visit = func(v reflect.Value) {
		switch {
		case v.Kind() == reflect.Struct:
			for i := range v.NumField() {
				visit(v.Field(i))
			}
		case v.Kind() == reflect.Slice && v.IsNil():
			v.Set(reflect.MakeSlice(v.Type(), 0, 0))
		case v.Kind() == reflect.Slice && v.Len() == 0:
			v.SetZero()
		case v.Kind() == reflect.Slice:
			for i := range v.Len() {
				visit(v.Index(i))
			}
		}
	}
	visit(reflect.ValueOf(&c).Elem())
	return c
}

// spoil makes some changes without any rule.
func (r maker) spoil(x any, times int) {
	for range times {
		at, count := 0, 0
		eachPlace(reflect.ValueOf(x).Elem(), func(reflect.Value) { count++ })
		at = r.Intn(count)
		eachPlace(reflect.ValueOf(x).Elem(), func(v reflect.Value) {
			if at--; at == -1 {
				r.spoilPlace(v)
			}
		})
	}
}

// spoilPlace changes a number, a text, a flag or a list.
func (r maker) spoilPlace(v reflect.Value) {
	numbers := []int{0, 1, -1, 2, 3, 4, 5, api.MaxInt, api.MaxInt + 1, 1<<63 - 1, -1 << 63}
	texts := []string{"", "a", "a1", "b", "f00", "r00", "id", "tenant", "type", "é", "\n", "a.b", "em0", "f00.p0", "x_id", long(41), long(101)}
	switch v.Kind() {
	case reflect.Int:
		v.SetInt(int64(numbers[r.Intn(len(numbers))]))
	case reflect.String:
		v.SetString(texts[r.Intn(len(texts))])
	case reflect.Bool:
		v.SetBool(!v.Bool())
	case reflect.Slice:
		switch {
		case r.chance(3):
			v.Set(reflect.Append(v.Slice3(0, v.Len(), v.Len()), reflect.Zero(v.Type().Elem())))
		case v.Len() > 0 && r.chance(2):
			v.Set(reflect.Append(v.Slice3(0, v.Len(), v.Len()), v.Index(r.Intn(v.Len()))))
		case v.Len() > 0:
			v.Set(v.Slice(0, v.Len()-1))
		}
	}
}

// eachPlace visits all numbers, texts, flags and lists within a value.
func eachPlace(v reflect.Value, visit func(v reflect.Value)) {
	if v.Kind() != reflect.Struct {
		visit(v)
	}
	switch v.Kind() {
	case reflect.Slice:
		for i := range v.Len() {
			eachPlace(v.Index(i), visit)
		}
	case reflect.Struct:
		for i := range v.NumField() {
			eachPlace(v.Field(i), visit)
		}
	}
}

// Z1, Z3: no function panics for strange arguments, and with an error all other results are zero.
func TestStrangeArguments(t *testing.T) {
	errors := map[api.Errno]int{}
	randomly(t, 800, func(t *testing.T, r maker) {
		m := r.model()
		s, _ := schema.Tables(m)
		w := r.world(m)
		d, _ := schema.Rows(m, w)
		other := clone(m)
		r.spoil(&other, r.Intn(3))
		s, d, w = clone(s), clone(d), clone(w)
		r.spoil(&s, r.Intn(3))
		r.spoil(&d, r.Intn(3))
		r.spoil(&w, r.Intn(3))
		text, _ := schema.Text(m)
		at := r.Intn(len(text))
		text = text[:at] + strings.Repeat(text[at:], r.Intn(3))
		for _, o := range callAll(other, m, s, d, w, []string{"a", "a1", ""}[r.Intn(3)], []string{"f00", "r00", "id", ""}[r.Intn(4)], text) {
			errors[o.err()]++
			if o.err() == api.OK {
				continue
			}
			for _, x := range o.results[:len(o.results)-1] {
				if !same(x, reflect.Zero(reflect.TypeOf(x)).Interface()) {
					t.Error(o.name, o.results)
				}
			}
		}
	})
	for _, err := range []api.Errno{api.OK, api.ErrArg, api.ErrLarge, api.ErrForm, api.ErrKind, api.ErrName, api.ErrTwice, api.ErrOrder, api.ErrType, api.ErrNull, api.ErrKey, api.ErrRef, api.ErrSyntax} {
		if errors[err] == 0 {
			t.Error("no error", err)
		}
	}
}

// Z1: expressions can be nested deeply, and have many parts.
func TestDeepFormulas(t *testing.T) {
	deep := api.Expr{Kind: api.XValue, Value: boolean(1)}
	for range 999 {
		deep = api.Expr{Kind: api.XOp, Op: api.OpNot, Args: []api.Expr{deep}}
	}
	wide := api.Expr{Kind: api.XIn, Args: make([]api.Expr, 99999)}
	for _, e := range []api.Expr{deep, wide} {
		m := zoo(t)
		m.Entities[0].Fields[3].Formula = []api.Expr{e}
		other := clone(m)
		if schema.Check(m) != api.ErrLarge || !schema.Equal(m, other) || schema.Equal(m, zoo(t)) {
			t.Error(len(e.Args))
		}
	}
}

// Z2, Z10: there is no state between calls, also with several goroutines.
func TestGoroutines(t *testing.T) {
	want := callZoo(t, lines(zooLines()...))
	var group sync.WaitGroup
	for range 8 {
		group.Add(1)
		go func() {
			defer group.Done()
			for range 10 {
				for i, o := range callZoo(t, lines(zooLines()...)) {
					if !sameResults(o.results, want[i].results) {
						t.Error(o.name)
					}
				}
			}
		}()
	}
	group.Wait()
}

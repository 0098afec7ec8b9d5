package schema

import (
	"dumbwaiter/api"
	"dumbwaiter/listing"
)

// SchemaText writes a schema.
func SchemaText(s api.Schema) (string, api.Errno) {
	if err := CheckSchema(s); err != api.OK {
		return "", err
	}
	return schemaText(s)
}

// schemaText returns the text of a schema that consists of the parts that texts have. Its only error is ErrLarge.
func schemaText(s api.Schema) (string, api.Errno) {
	var w listing.Writer
	for _, t := range s.Tables {
		w.Line("table", t.Name)
		w.Table(t)
	}
	return w.Text()
}

// SchemaRead returns the schema with a text.
func SchemaRead(s string) (api.Schema, api.Errno) {
	return listing.Read(s, readSchema, schemaText, CheckSchema)
}

// readSchema returns the only schema that can have a text; it need not have it. All of its parts are such that they have texts.
func readSchema(s string) (api.Schema, bool) {
	lines, ok := listing.Lines(s)
	var x api.Schema
	for _, w := range lines {
		if w[0] == "table" {
			ok = ok && len(w) == 2 && listing.IsTallWord(w[1])
			x.Tables = append(x.Tables, api.Table{Name: w[len(w)-1]})
			continue
		}
		ok = ok && len(x.Tables) > 0 && listing.ReadTable(&x.Tables[len(x.Tables)-1], w)
	}
	return x, ok
}

package ways

import (
	"os"
	"path/filepath"
	"slices"
	"testing"
)

// landed is how many of the layers are built.
const landed = 44

// TestWays checks that each layer that is built contains the ways that the document's section 'Ways' names for it.
func TestWays(t *testing.T) {
	for _, c := range []struct {
		pack  string
		words []string
	}{
		{"fix", []string{"fallthrough", "variadic"}},
		{"mask", []string{"range-function", "range-string", "array-compared"}},
		{"row", []string{"range-string", "label", "variadic"}},
		{"crc", []string{"array", "range-string", "label"}},
		{"ring", []string{"closure", "three-index", "map", "delete"}},
		{"wire", []string{"range-string", "method-value", "range-function"}},
		{"shaft", []string{"closure", "three-index"}},
		{"profile", []string{"range-function", "closure", "array", "label"}},
		{"motion", []string{"method-value", "array"}},
		{"brake", []string{"iota", "range-integer", "fallthrough", "method-value"}},
		{"load", []string{"iota", "fallthrough", "variadic"}},
		{"sensor", []string{"map", "struct-compared", "generic-function"}},
		{"drive", []string{"method-expression", "array", "range-function", "label"}},
		{"limit", []string{"function-field", "iota", "map", "defer"}},
		{"move", []string{"embedding", "defer", "range-integer"}},
		{"panel", []string{"iota", "fallthrough", "range-function", "defer"}},
		{"lock", []string{"range-function", "range-string", "embedding", "promoted"}},
		{"door", []string{"fallthrough", "closure", "map", "range-function"}},
		{"cycle", []string{"embedding", "promoted", "defer", "range-function"}},
		{"call", []string{"range-string", "label", "map", "variadic"}},
		{"table", []string{"map", "closure"}},
		{"key", []string{"range-function", "generic-function"}},
		{"mode", []string{"range-string", "type-switch", "array"}},
		{"port", []string{"map", "type-switch"}},
		{"slice", []string{"map", "array", "closure"}},
		{"phase", []string{"method-value", "generic-function", "struct-compared"}},
		{"config", []string{"variadic", "assertion", "panic", "defer", "recover"}},
		{"pick", []string{"array", "map", "generic-function"}},
		{"assign", []string{"closure", "generic-function", "range-function", "map"}},
		{"purge", []string{"generic-function", "closure", "range-integer"}},
		{"car", []string{"map", "method-expression", "assertion", "defer"}},
		{"scrub", []string{"closure", "generic-function"}},
		{"word", []string{"array", "range-string"}},
		{"script", []string{"type-switch", "assertion", "errors-as"}},
		{"domain", []string{"type-switch", "assertion", "map", "method-expression"}},
		{"plant", []string{"map", "method-expression", "closure", "go", "waitgroup"}},
		{"group", []string{"embedding", "promoted", "method-expression", "generic-function", "range-function"}},
		{"trace", []string{"type-switch", "interface", "iota", "range-string", "generic-function"}},
		{"product", []string{"go", "waitgroup", "array", "range-function"}},
		{"guard", []string{"closure", "range-integer", "map", "variadic"}},
		{"bound", []string{"go", "channel", "method-value", "map"}},
		{"flow", []string{"generic-function", "closure", "three-index"}},
		{"report", []string{"array", "range-function"}},
		{"bench", []string{"go", "channel", "waitgroup", "panic", "recover", "defer", "assertion", "map"}},
	}[:landed] {
		miss, err := WaysMissing("..", "tipstaff", []string{c.pack}, c.words)
		if err != nil {
			t.Fatal(err)
		}
		for _, m := range miss {
			t.Errorf("%s: way missing: %s", c.pack, m)
		}
	}
}

// TestFunctionField checks that only a struct's field whose own type is a function type counts as one, and no table of functions.
func TestFunctionField(t *testing.T) {
	for _, c := range []struct {
		field string
		miss  []string
	}{
		{"func() bool", nil},
		{"[2]func() bool", []string{"function-field"}},
		{"[]func() bool", []string{"function-field"}},
		{"map[int]func() bool", []string{"function-field"}},
	} {
		root := t.TempDir()
		if err := os.Mkdir(filepath.Join(root, "p"), 0o755); err != nil {
			t.Fatal(err)
		}
		text := "package p\n\ntype T struct {\n\tF " + c.field + "\n}\n"
		if err := os.WriteFile(filepath.Join(root, "p", "p.go"), []byte(text), 0o644); err != nil {
			t.Fatal(err)
		}
		miss, err := WaysMissing(root, "m", []string{"p"}, []string{"function-field"})
		if err != nil || !slices.Equal(miss, c.miss) {
			t.Error(c.field, miss, err)
		}
	}
}

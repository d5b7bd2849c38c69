package ways

// ways.go: which of the language's ways the program has, in code that the exported functions of its faces reach (by names, as far as the text shows it).

import (
	"go/ast"
	"go/build"
	"go/importer"
	"go/parser"
	"go/token"
	"go/types"
	"os"
	"os/exec"
	"path/filepath"
	"sort"
	"strings"
)

// KnownWays: the words that may be asked for.
const KnownWays = " go channel send receive close select waitgroup mutex once atomic embedding promoted method-value method-expression float complex goto label fallthrough range-string range-map range-channel range-function range-integer variadic generic-function generic-type interface interface-call type-switch assertion defer recover panic errors-is errors-as map delete clear closure function-field array array-compared struct-compared three-index copy iota rune constant-table init start-up "

type waysPack struct {
	files []*ast.File
	tp    *types.Package
}

type waysLook struct {
	root, module string
	fset         *token.FileSet
	info         *types.Info
	packs        map[string]*waysPack
	std          types.Importer
}

func (w *waysLook) Import(path string) (*types.Package, error) {
	if path == w.module || strings.HasPrefix(path, w.module+"/") {
		p, err := w.load(path)
		if err != nil {
			return nil, err
		}
		return p.tp, nil
	}
	return w.std.Import(path)
}

func (w *waysLook) load(path string) (*waysPack, error) {
	if p := w.packs[path]; p != nil {
		return p, nil
	}
	p := &waysPack{}
	w.packs[path] = p
	fs, _ := filepath.Glob(filepath.Join(w.root, strings.TrimPrefix(path, w.module), "*.go"))
	for _, f := range fs {
		if strings.HasSuffix(f, "_test.go") {
			continue
		}
		a, err := parser.ParseFile(w.fset, f, nil, 0)
		if err != nil {
			return nil, err
		}
		p.files = append(p.files, a)
	}
	var err error
	c := types.Config{Importer: w}
	p.tp, err = c.Check(path, w.fset, p.files, w.info)
	return p, err
}

// WaysMissing: the words of wanted of which the program (at root, of that module) has nothing in what its faces reach; sorted.
func WaysMissing(root, module string, faces, wanted []string) ([]string, error) {
	if build.Default.GOROOT == "" {
		o, _ := exec.Command("go", "env", "GOROOT").Output()
		build.Default.GOROOT = strings.TrimSpace(string(o))
	}
	w := &waysLook{root: root, module: module, fset: token.NewFileSet(), packs: map[string]*waysPack{}, info: &types.Info{Types: map[ast.Expr]types.TypeAndValue{}, Uses: map[*ast.Ident]types.Object{}, Defs: map[*ast.Ident]types.Object{}, Selections: map[*ast.SelectorExpr]*types.Selection{}, Instances: map[*ast.Ident]types.Instance{}}}
	w.std = importer.ForCompiler(w.fset, "source", nil)
	for _, f := range faces {
		if _, err := os.Stat(filepath.Join(root, f)); err != nil {
			return nil, err
		}
		if _, err := w.load(module + "/" + f); err != nil {
			return nil, err
		}
	}
	decls := map[types.Object]ast.Node{}
	methods := map[string][]types.Object{} // by name: what a call through an interface may reach
	var work []types.Object
	seen := map[types.Object]bool{}
	var given []types.Type
	got := map[string]bool{}
	push := func(o types.Object) {
		if f, ok := o.(*types.Func); ok {
			o = f.Origin()
		}
		if o != nil && decls[o] != nil && !seen[o] && within(o, module, faces) {
			seen[o] = true
			work = append(work, o)
		}
	}
	for path, p := range w.packs {
		face := false
		for _, f := range faces {
			face = face || path == module+"/"+f
		}
		var first []types.Object
		for _, a := range p.files {
			for _, d := range a.Decls {
				switch x := d.(type) {
				case *ast.FuncDecl:
					o := w.info.Defs[x.Name]
					decls[o] = x
					if x.Recv != nil {
						methods[x.Name.Name] = append(methods[x.Name.Name], o)
					}
					if face && x.Name.IsExported() || x.Recv == nil && x.Name.Name == "init" { // init runs whoever calls
						first = append(first, o)
					}
				case *ast.GenDecl:
					for _, s := range x.Specs {
						switch y := s.(type) {
						case *ast.TypeSpec:
							decls[w.info.Defs[y.Name]] = y
						case *ast.ValueSpec:
							for _, n := range y.Names {
								if n.Name != "_" && x.Tok == token.CONST { // the whole group: a line may repeat the one above it
									decls[w.info.Defs[n]] = x
								} else if n.Name != "_" {
									decls[w.info.Defs[n]] = y
								}
							}
						}
					}
				}
			}
		}
		for _, o := range first {
			push(o)
		}
		if face && p.tp != nil { // and the methods of what the face gives out: its types, aliases of others, results; promoted methods too
			for _, n := range p.tp.Scope().Names() {
				if o := p.tp.Scope().Lookup(n); o.Exported() {
					given = append(given, o.Type())
				}
			}
		}
	}
	out1 := map[types.Type]bool{}
	for len(given) > 0 {
		t := types.Unalias(given[0])
		given = given[1:]
		if out1[t] {
			continue
		}
		out1[t] = true
		switch x := t.(type) {
		case *types.Pointer:
			given = append(given, x.Elem())
		case *types.Slice:
			given = append(given, x.Elem())
		case *types.Signature:
			for i := 0; i < x.Results().Len(); i++ {
				given = append(given, x.Results().At(i).Type())
			}
		case *types.Named:
			if b := x.Obj().Pkg(); b == nil || b.Path() != module && !strings.HasPrefix(b.Path(), module+"/") {
				continue
			}
			ms := types.NewMethodSet(types.NewPointer(x))
			for i := 0; i < ms.Len(); i++ {
				if m := ms.At(i).Obj(); m.Exported() {
					if len(ms.At(i).Index()) > 1 { // a face gives out what an embedded part promotes
						got["promoted"] = true
					}
					push(m)
					given = append(given, m.Type())
				}
			}
			push(x.Obj())
		}
	}
	for len(work) > 0 {
		o := work[0]
		work = work[1:]
		w.look(decls[o], got, push, methods)
	}
	var out []string
	for _, x := range wanted {
		if !strings.Contains(KnownWays, " "+x+" ") {
			out = append(out, x+" (no word of ways.go)")
		} else if !got[x] {
			out = append(out, x)
		}
	}
	sort.Strings(out)
	return out, nil
}

// within: the project's test is stricter than a look at all that is reached: the ways have to be in the package itself.
func within(o types.Object, module string, faces []string) bool {
	for _, f := range faces {
		if o.Pkg() != nil && o.Pkg().Path() == module+"/"+f {
			return true
		}
	}
	return false
}

func (w *waysLook) under(e ast.Expr) types.Type {
	t := w.info.Types[e].Type
	if t == nil {
		return nil
	}
	return t.Underlying()
}

func (w *waysLook) look(n ast.Node, got map[string]bool, push func(types.Object), methods map[string][]types.Object) {
	called := map[ast.Expr]bool{}
	root := n
	ast.Inspect(n, func(n ast.Node) bool {
		switch x := n.(type) {
		case *ast.GoStmt:
			got["go"] = true
		case *ast.ChanType:
			got["channel"] = true
		case *ast.SendStmt:
			got["send"] = true
		case *ast.UnaryExpr:
			if x.Op == token.ARROW {
				got["receive"] = true
			}
		case *ast.SelectStmt:
			got["select"] = true
		case *ast.DeferStmt:
			got["defer"] = true
		case *ast.MapType:
			got["map"] = true
		case *ast.FuncLit:
			got["closure"] = true
		case *ast.TypeSwitchStmt:
			got["type-switch"] = true
		case *ast.TypeAssertExpr:
			if x.Type != nil {
				got["assertion"] = true
			}
		case *ast.LabeledStmt:
			got["label"] = true
		case *ast.BranchStmt:
			if x.Tok == token.GOTO || x.Tok == token.FALLTHROUGH {
				got[x.Tok.String()] = true
			}
		case *ast.InterfaceType:
			if x.Methods != nil && len(x.Methods.List) > 0 {
				got["interface"] = true
			}
		case *ast.StructType:
			for _, f := range x.Fields.List {
				if len(f.Names) == 0 {
					got["embedding"] = true
				}
				if _, ok := w.under(f.Type).(*types.Signature); ok {
					got["function-field"] = true
				}
			}
		case *ast.TypeSpec:
			if x.TypeParams != nil {
				got["generic-type"] = true
			}
		case *ast.FuncDecl:
			if x.Type.TypeParams != nil {
				got["generic-function"] = true
			}
			if x.Recv == nil && x.Name.Name == "init" {
				got["init"], got["start-up"] = true, true
			}
		case *ast.ValueSpec:
			if ast.Node(x) != root { // a local
				return true
			}
			for _, v := range x.Values {
				switch c := v.(type) {
				case *ast.CompositeLit:
					got["constant-table"] = true
				case *ast.CallExpr:
					if t := w.info.Types[c.Fun]; !t.IsType() && types.ExprString(c.Fun) != "errors.New" {
						got["start-up"] = true
					}
				}
			}
		case *ast.Ellipsis:
			if x.Elt != nil {
				got["variadic"] = true
			}
		case *ast.ArrayType:
			if x.Len != nil {
				got["array"] = true
			}
		case *ast.SliceExpr:
			if x.Slice3 {
				got["three-index"] = true
			}
		case *ast.RangeStmt:
			switch t := w.under(x.X).(type) {
			case *types.Map:
				got["range-map"] = true
			case *types.Chan:
				got["range-channel"] = true
				got["receive"] = true
			case *types.Signature:
				got["range-function"] = true
			case *types.Basic:
				if t.Info()&types.IsString != 0 {
					got["range-string"] = true
				} else {
					got["range-integer"] = true
				}
			}
		case *ast.CompositeLit: // a table of literals inside a function is one too
			switch w.under(x).(type) {
			case *types.Array, *types.Slice, *types.Map:
				n := 0
				for _, e := range x.Elts {
					if kv, ok := e.(*ast.KeyValueExpr); ok {
						e = kv.Value
					}
					if _, ok := e.(*ast.CompositeLit); ok || w.info.Types[e].Value != nil {
						n++
					}
				}
				if n >= 3 {
					got["constant-table"] = true
				}
			}
		case *ast.IndexExpr:
			if m, ok := w.under(x.X).(*types.Map); ok { // a map holds its keys against each other
				switch m.Key().Underlying().(type) {
				case *types.Array:
					got["array-compared"] = true
				case *types.Struct:
					got["struct-compared"] = true
				}
			}
		case *ast.BinaryExpr:
			if x.Op == token.EQL || x.Op == token.NEQ {
				switch w.under(x.X).(type) {
				case *types.Array:
					got["array-compared"] = true
				case *types.Struct:
					got["struct-compared"] = true
				}
			}
		case *ast.CallExpr:
			called[ast.Unparen(x.Fun)] = true
			if f, ok := ast.Unparen(x.Fun).(*ast.Ident); ok {
				if b, ok := w.info.Uses[f].(*types.Builtin); ok {
					got[b.Name()] = true // close, delete, clear, copy, recover, panic ..
				}
			}
		case *ast.SelectorExpr:
			if s := w.info.Selections[x]; s != nil {
				if len(s.Index()) > 1 {
					got["promoted"] = true
				}
				switch s.Kind() {
				case types.MethodExpr:
					got["method-expression"] = true
				case types.MethodVal:
					if !called[x] {
						got["method-value"] = true
					}
				}
				if s.Kind() != types.FieldVal {
					through := types.IsInterface(s.Recv())
					if f, ok := s.Obj().(*types.Func); ok { // promoted from an embedded interface
						if r := f.Signature().Recv(); r != nil && types.IsInterface(r.Type()) {
							through = true
						}
					}
					if through {
						if _, p := s.Recv().(*types.TypeParam); !p {
							got["interface-call"] = true
						}
						for _, o := range methods[x.Sel.Name] {
							push(o)
						}
					}
				}
			}
			if o := w.info.Uses[x.Sel]; o != nil && o.Pkg() != nil {
				switch o.Pkg().Path() + "." + o.Name() {
				case "sync.WaitGroup":
					got["waitgroup"] = true
				case "maps.Keys", "maps.Values", "maps.All":
					got["range-map"] = true
				case "slices.Clone", "maps.Clone", "maps.Copy", "bytes.Clone":
					got["copy"] = true
				case "maps.DeleteFunc":
					got["delete"] = true
				case "sync.Go": // (*sync.WaitGroup).Go starts one
					got["waitgroup"], got["go"] = true, true
				case "sync.Mutex", "sync.RWMutex":
					got["mutex"] = true
				case "sync.Once":
					got["once"] = true
				case "errors.Is":
					got["errors-is"] = true
				case "errors.As":
					got["errors-as"] = true
				}
				if o.Pkg().Path() == "sync/atomic" {
					got["atomic"] = true
				}
			}
		case *ast.Ident:
			if o := w.info.Uses[x]; o != nil {
				push(o)
				if f, ok := o.(*types.Func); ok { // a generic function whose type parameter is comparable (slices.Equal, Contains, Index; one of the program's own)
					if in, ok := w.info.Instances[x]; ok {
						ps := f.Signature().TypeParams()
						for i := 0; i < ps.Len() && i < in.TypeArgs.Len(); i++ {
							if c, ok := ps.At(i).Constraint().Underlying().(*types.Interface); ok && c.IsComparable() {
								switch in.TypeArgs.At(i).Underlying().(type) {
								case *types.Array:
									got["array-compared"] = true
								case *types.Struct:
									got["struct-compared"] = true
								}
							}
						}
					}
				}
				if o.Pkg() == nil && (o.Name() == "iota" || o.Name() == "rune") {
					got[o.Name()] = true
				}
				if v, ok := o.(*types.TypeName); ok { // the methods of a type that is named may be called by the library (Error, Less)
					if t, ok := types.Unalias(v.Type()).(*types.Named); ok {
						for i := 0; i < t.NumMethods(); i++ {
							if m := t.Method(i); strings.Contains(" Error Unwrap Is As Len Less Swap String ", " "+m.Name()+" ") {
								push(m)
							}
						}
					}
				}
			}
		}
		if e, ok := n.(ast.Expr); ok {
			if v := w.info.Types[e]; v.IsValue() && v.Value == nil {
				if b, ok := v.Type.Underlying().(*types.Basic); ok {
					if b == types.Universe.Lookup("rune").Type() { // a value of type rune, the word itself spelt or not (for _, r := range text)
						got["rune"] = true
					}
					if b.Info()&types.IsFloat != 0 {
						got["float"] = true
					}
					if b.Info()&types.IsComplex != 0 {
						got["complex"] = true
					}
				}
			}
		}
		return true
	})
}

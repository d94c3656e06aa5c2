package tests

import (
	"go/ast"
	"go/parser"
	"go/token"
	"go/types"
	"os"
	"path/filepath"
	"strings"
	"testing"
)

// source is the parsed package: its files, and what its names mean.
type source struct {
	files *token.FileSet
	trees []*ast.File
	info  *types.Info
}

func newSource(t *testing.T) source {
	t.Helper()
	names, err := filepath.Glob(filepath.Join("..", "impl", "*.go"))
	if err != nil || len(names) == 0 {
		t.Fatal("no files of impl", err)
	}
	texts := []string{}
	for _, name := range names {
		text, err := os.ReadFile(name)
		if err != nil {
			t.Fatal(err)
		}
		texts = append(texts, string(text))
	}
	src, err := sourceOf(texts)
	if err != nil {
		t.Fatal(err)
	}
	return src
}

func sourceOf(texts []string) (source, error) {
	src := source{
		files: token.NewFileSet(),
		info: &types.Info{
			Defs:  map[*ast.Ident]types.Object{},
			Uses:  map[*ast.Ident]types.Object{},
			Types: map[ast.Expr]types.TypeAndValue{},
		},
	}
	for _, text := range texts {
		tree, err := parser.ParseFile(src.files, "", text, parser.SkipObjectResolution)
		if err != nil {
			return src, err
		}
		src.trees = append(src.trees, tree)
	}
	// What cannot be resolved, such as imports, is told by forbidden itself.
	config := types.Config{Error: func(error) {}}
	config.Check("impl", src.files, src.trees, src.info)
	return src, nil
}

// forbidden returns what of a package is outside the subset, a line each.
func forbidden(src source) []string {
	out := []string{}
	tell := func(what string, at token.Pos) {
		out = append(out, what+" at line "+src.files.Position(at).String())
	}
	for _, tree := range src.trees {
		if tree.Name.Name != "impl" {
			tell("package "+tree.Name.Name, tree.Pos())
		}
		for _, x := range tree.Imports {
			tell("import", x.Pos())
		}
		for _, d := range tree.Decls {
			forbiddenDecl(d, tell)
		}
		called := calledNames(tree)
		ast.Inspect(tree, func(n ast.Node) bool {
			forbiddenType(n, tell)
			forbiddenStmt(n, tell)
			forbiddenExpr(src, n, tell)
			if x, ok := n.(*ast.Ident); ok {
				forbiddenName(src, x, called[x], tell)
			}
			return true
		})
	}
	return out
}

func forbiddenDecl(d ast.Decl, tell func(string, token.Pos)) {
	if x, ok := d.(*ast.GenDecl); ok && x.Tok == token.VAR {
		tell("package variable", x.Pos())
	}
	if x, ok := d.(*ast.FuncDecl); ok {
		if x.Recv == nil && x.Name.Name == "init" {
			tell("func init", x.Pos())
		}
		if x.Type.TypeParams != nil {
			tell("generic function", x.Pos())
		}
	}
}

func forbiddenType(n ast.Node, tell func(string, token.Pos)) {
	switch x := n.(type) {
	case *ast.InterfaceType:
		tell("interface", x.Pos())
	case *ast.MapType:
		tell("map", x.Pos())
	case *ast.ChanType:
		tell("channel", x.Pos())
	case *ast.TypeSpec:
		if x.TypeParams != nil {
			tell("generic type", x.Pos())
		}
		if _, ok := x.Type.(*ast.FuncType); ok {
			tell("function type", x.Pos())
		}
	case *ast.Field:
		if _, ok := x.Type.(*ast.FuncType); ok {
			tell("function type", x.Pos())
		}
	}
}

func forbiddenStmt(n ast.Node, tell func(string, token.Pos)) {
	switch x := n.(type) {
	case *ast.TypeSwitchStmt:
		tell("type switch", x.Pos())
	case *ast.GoStmt:
		tell("go", x.Pos())
	case *ast.SelectStmt:
		tell("select", x.Pos())
	case *ast.SendStmt:
		tell("send", x.Pos())
	case *ast.DeferStmt:
		tell("defer", x.Pos())
	case *ast.BranchStmt:
		if x.Tok == token.GOTO {
			tell("goto", x.Pos())
		}
	case *ast.AssignStmt:
		for _, left := range x.Lhs {
			if _, ok := left.(*ast.Ident); !ok && len(x.Lhs) > 1 {
				tell("several values at once to elements or fields", x.Pos())
			}
		}
	}
}

func forbiddenExpr(src source, n ast.Node, tell func(string, token.Pos)) {
	switch x := n.(type) {
	case *ast.FuncLit:
		tell("closure", x.Pos())
	case *ast.TypeAssertExpr:
		tell("type assertion", x.Pos())
	case *ast.SliceExpr:
		if x.Slice3 {
			tell("slice expression with three indexes", x.Pos())
		}
	case *ast.BasicLit:
		// The document asks for floats nowhere.
		if x.Kind == token.FLOAT || x.Kind == token.IMAG {
			tell("float or complex number", x.Pos())
		}
	case *ast.BinaryExpr:
		if src.info.Types[x.X].IsNil() || src.info.Types[x.Y].IsNil() {
			tell("comparison with nil", x.Pos())
		}
	}
}

func forbiddenName(src source, x *ast.Ident, isCalled bool, tell func(string, token.Pos)) {
	use := src.info.Uses[x]
	if use == nil {
		return
	}
	if _, ok := use.(*types.Func); ok && !isCalled {
		tell("function value "+x.Name, x.Pos())
	}
	if use.Parent() != types.Universe {
		return
	}
	switch x.Name {
	case "any", "error", "cap", "panic", "recover", "float32", "float64", "complex64", "complex128", "complex", "real", "imag":
		tell(x.Name, x.Pos())
	}
}

// calledNames returns the names of a file that stand where they are called.
func calledNames(tree *ast.File) map[*ast.Ident]bool {
	out := map[*ast.Ident]bool{}
	ast.Inspect(tree, func(n ast.Node) bool {
		call, ok := n.(*ast.CallExpr)
		if !ok {
			return true
		}
		switch f := call.Fun.(type) {
		case *ast.Ident:
			out[f] = true
		case *ast.SelectorExpr:
			out[f.Sel] = true
		}
		return true
	})
	return out
}

func TestLanguageOfTheProgram(t *testing.T) {
	for _, line := range forbidden(newSource(t)) {
		t.Error(line)
	}
}

func TestLanguageTestSeesWhatIsForbidden(t *testing.T) {
	bodies := []string{
		"import \"fmt\"", "var x int", "func init() {}", "type t interface{}", "type t any", "type t []error",
		"func f(x func()) {}", "type t func()", "func f() { g := func() {}; g() }", "func f() {}\nfunc g() { x := f; x() }",
		"type t struct{}\nfunc (t) m() {}\nfunc g(x t) { y := x.m; y() }",
		"type t map[int]int", "func f() { go f() }", "type t chan int", "func f() { select {} }", "func f() { defer f() }",
		"func f() { recover() }", "func f() { panic(1) }", "func f() { x: goto x }", "func f[t int](x t) {}", "type t[a int] struct{}",
		"type t float64", "func f() int { return int(2.0) }", "type t complex128", "func f(a []int) { a[0], a[1] = 1, 2 }",
		"func f(a []int) int { return cap(a) }", "func f(a []int) []int { return a[0:1:1] }", "func f(a []int) bool { return a == nil }",
		"func f(x t) { switch x.(type) {} }\ntype t interface{}",
	}
	for _, body := range bodies {
		src, err := sourceOf([]string{"package impl\n" + body})
		if err != nil {
			t.Fatal(body, err)
		}
		if len(forbidden(src)) == 0 {
			t.Errorf("not seen: %s", body)
		}
	}
	fine := "package impl\ntype t struct{ a []int }\nfunc (x t) m() int { return len(x.a) }\n" +
		"func f(x t) []int { a, b := 1, 2; a, b = b, a; if x.m() > a { return nil }; return append([]int{}, b) }"
	src, err := sourceOf([]string{fine})
	if err != nil || len(forbidden(src)) != 0 {
		t.Error(err, forbidden(src))
	}
}

// callsOf returns the names that each function of a package calls.
func callsOf(src source) map[string][]string {
	out := map[string][]string{}
	for _, tree := range src.trees {
		for _, d := range tree.Decls {
			f, ok := d.(*ast.FuncDecl)
			if !ok {
				continue
			}
			ast.Inspect(f, func(n ast.Node) bool {
				if call, ok := n.(*ast.CallExpr); ok {
					if name, ok := call.Fun.(*ast.Ident); ok {
						out[f.Name.Name] = append(out[f.Name.Name], name.Name)
					}
				}
				return true
			})
		}
	}
	return out
}

// reaches reports whether a function comes to call another one; seen bounds it where functions call one another.
func reaches(calls map[string][]string, from string, to string, seen map[string]bool) bool {
	if from == to {
		return true
	}
	if seen[from] {
		return false
	}
	seen[from] = true
	for _, next := range calls[from] {
		if reaches(calls, next, to, seen) {
			return true
		}
	}
	return false
}

// tablesOfOps returns the functions with a switch that has a case for each instruction.
func tablesOfOps(src source) []string {
	out := []string{}
	for _, tree := range src.trees {
		for _, d := range tree.Decls {
			f, ok := d.(*ast.FuncDecl)
			if !ok {
				continue
			}
			ast.Inspect(f, func(n ast.Node) bool {
				if s, ok := n.(*ast.SwitchStmt); ok && casesOfOps(s) == len(usesByOp()) {
					out = append(out, f.Name.Name)
				}
				return true
			})
		}
	}
	return out
}

func casesOfOps(s *ast.SwitchStmt) int {
	n := 0
	for _, stmt := range s.Body.List {
		for _, x := range stmt.(*ast.CaseClause).List {
			if name, ok := x.(*ast.Ident); ok && strings.HasPrefix(name.Name, "Op") {
				n++
			}
		}
	}
	return n
}

func TestWayOfProgramsIsATable(t *testing.T) {
	src := newSource(t)
	calls := callsOf(src)
	for _, table := range tablesOfOps(src) {
		all := true
		for _, name := range []string{"CodeOk", "ProgramOk", "CodeText", "ReadCode"} {
			all = all && reaches(calls, name, table, map[string]bool{})
		}
		if all {
			return
		}
	}
	t.Error("there is no table by which all of it goes that tells what each instruction uses")
}

// writesToArguments returns where a function writes into what an argument leads to, a line each.
func writesToArguments(src source) []string {
	out := []string{}
	for _, tree := range src.trees {
		for _, d := range tree.Decls {
			f, ok := d.(*ast.FuncDecl)
			if !ok || f.Body == nil {
				continue
			}
			arguments := argumentsOf(src, f)
			ast.Inspect(f.Body, func(n ast.Node) bool {
				for _, x := range writtenBy(src, n) {
					root := rootOf(x)
					if root != nil && arguments[src.info.Uses[root]] {
						out = append(out, f.Name.Name+" writes to "+root.Name+" at line "+src.files.Position(x.Pos()).String())
					}
				}
				return true
			})
		}
	}
	return out
}

// argumentsOf returns what the receiver and the parameters of a function are.
func argumentsOf(src source, f *ast.FuncDecl) map[types.Object]bool {
	out := map[types.Object]bool{}
	lists := []*ast.FieldList{f.Type.Params}
	if f.Recv != nil {
		lists = append(lists, f.Recv)
	}
	for _, list := range lists {
		for _, field := range list.List {
			for _, name := range field.Names {
				if x := src.info.Defs[name]; x != nil {
					out[x] = true
				}
			}
		}
	}
	return out
}

// writtenBy returns what is written to by a statement or a call, but for names themselves and fields of values, which are a function's own.
func writtenBy(src source, n ast.Node) []ast.Expr {
	switch x := n.(type) {
	case *ast.AssignStmt:
		return outsideOf(src, x.Lhs)
	case *ast.IncDecStmt:
		return outsideOf(src, []ast.Expr{x.X})
	case *ast.CallExpr:
		name, ok := x.Fun.(*ast.Ident)
		if ok && len(x.Args) > 0 && (name.Name == "append" || name.Name == "copy" || name.Name == "clear") {
			return x.Args[:1]
		}
	}
	return nil
}

// outsideOf returns those of the left sides of an assignment that go through an index or a pointer.
func outsideOf(src source, list []ast.Expr) []ast.Expr {
	out := []ast.Expr{}
	for _, left := range list {
		through := false
		ast.Inspect(left, func(n ast.Node) bool {
			switch x := n.(type) {
			case *ast.IndexExpr, *ast.StarExpr:
				through = true
			case *ast.SelectorExpr:
				through = through || isPointer(src, x.X)
			}
			return true
		})
		if through {
			out = append(out, left)
		}
	}
	return out
}

func isPointer(src source, x ast.Expr) bool {
	kind := src.info.TypeOf(x)
	if kind == nil {
		return false
	}
	_, ok := kind.Underlying().(*types.Pointer)
	return ok
}

// rootOf returns the name with which an expression begins, nil if it begins with something else.
func rootOf(x ast.Expr) *ast.Ident {
	switch x := x.(type) {
	case *ast.Ident:
		return x
	case *ast.SelectorExpr:
		return rootOf(x.X)
	case *ast.IndexExpr:
		return rootOf(x.X)
	case *ast.SliceExpr:
		return rootOf(x.X)
	case *ast.StarExpr:
		return rootOf(x.X)
	case *ast.ParenExpr:
		return rootOf(x.X)
	}
	return nil
}

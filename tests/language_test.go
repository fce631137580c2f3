package tests

import (
	"bytes"
	"go/ast"
	"go/format"
	"go/parser"
	"go/token"
	"os"
	"path/filepath"
	"strconv"
	"strings"
	"testing"
)

const allowedImports = " bytes cmp container/heap errors iter maps math math/bits slices sort strconv strings sync sync/atomic unicode unicode/utf8 "

const mostLines = 60

// programFiles are the texts of the program's files, by their paths.
func programFiles(t *testing.T) map[string][]byte {
	t.Helper()
	found, err := os.ReadDir("../impl")
	if err != nil {
		t.Fatal(err)
	}
	files := map[string][]byte{}
	for _, f := range found {
		if f.IsDir() || !strings.HasSuffix(f.Name(), ".go") || strings.HasSuffix(f.Name(), "_test.go") {
			t.Errorf("impl/%s: impl holds the program's Go files alone", f.Name())
			continue
		}
		path := filepath.Join("../impl", f.Name())
		text, err := os.ReadFile(path)
		if err != nil {
			t.Fatal(err)
		}
		files[path] = text
	}
	if len(files) == 0 {
		t.Fatal("no file of the program was found")
	}
	return files
}

func TestProgramKeepsTheLayout(t *testing.T) {
	for path, text := range programFiles(t) {
		laid, err := format.Source(text)
		if err != nil {
			t.Errorf("%s: %v", path, err)
		} else if !bytes.Equal(laid, text) {
			t.Errorf("%s: isn't in gofmt's layout", path)
		}
		if bytes.Contains(text, []byte("//go:")) || bytes.Contains(text, []byte("// +build")) {
			t.Errorf("%s: has a //go: line or a build tag", path)
		}
	}
}

func TestProgramKeepsTheLanguage(t *testing.T) {
	set := token.NewFileSet()
	for path, text := range programFiles(t) {
		file, err := parser.ParseFile(set, path, text, parser.SkipObjectResolution)
		if err != nil {
			t.Fatal(err)
		}
		for _, i := range file.Imports {
			name, _ := strconv.Unquote(i.Path.Value)
			if !strings.Contains(allowedImports, " "+name+" ") {
				t.Errorf("%s: imports %s", path, name)
			}
		}
		for _, d := range file.Decls {
			if f, ok := d.(*ast.FuncDecl); ok {
				checkFunction(t, set, f)
			}
		}
	}
}

func checkFunction(t *testing.T, set *token.FileSet, f *ast.FuncDecl) {
	t.Helper()
	if f.Recv == nil && f.Name.Name == "init" {
		t.Errorf("%s: the program has no init", set.Position(f.Pos()))
	}
	if lines := set.Position(f.End()).Line - set.Position(f.Pos()).Line + 1; lines > mostLines {
		t.Errorf("%s: %s has %d lines", set.Position(f.Pos()), f.Name.Name, lines)
	}
}

// variableNames are the variables that stand at package level in a file, which must have their values there.
func variableNames(t *testing.T, set *token.FileSet, file *ast.File) map[string]int {
	t.Helper()
	names := map[string]int{}
	for _, d := range file.Decls {
		group, ok := d.(*ast.GenDecl)
		if !ok || group.Tok != token.VAR {
			continue
		}
		for _, s := range group.Specs {
			v := s.(*ast.ValueSpec)
			if len(v.Values) != len(v.Names) {
				t.Errorf("%s: a variable at package level has no value of its own", set.Position(v.Pos()))
			}
			for _, n := range v.Names {
				names[n.Name]++
			}
		}
	}
	return names
}

// writtenTo are the expressions that a node writes to, or whose address it takes.
func writtenTo(n ast.Node) []ast.Expr {
	switch x := n.(type) {
	case *ast.AssignStmt:
		return x.Lhs
	case *ast.IncDecStmt:
		return []ast.Expr{x.X}
	case *ast.RangeStmt:
		return []ast.Expr{x.Key, x.Value}
	case *ast.UnaryExpr:
		if x.Op == token.AND {
			return []ast.Expr{x.X}
		}
	}
	return nil
}

// baseName is the name that stands at the front of an expression: that of v in v.a[i].
func baseName(e ast.Expr) string {
	switch x := e.(type) {
	case *ast.Ident:
		return x.Name
	case *ast.IndexExpr:
		return baseName(x.X)
	case *ast.SelectorExpr:
		return baseName(x.X)
	case *ast.ParenExpr:
		return baseName(x.X)
	}
	return ""
}

// A variable at package level is written by its own declaration alone; no other one has its name.
func TestProgramWritesNoPackageVariable(t *testing.T) {
	set := token.NewFileSet()
	names := map[string]int{}
	var files []*ast.File
	for path, text := range programFiles(t) {
		file, err := parser.ParseFile(set, path, text, parser.SkipObjectResolution)
		if err != nil {
			t.Fatal(err)
		}
		files = append(files, file)
		for name := range variableNames(t, set, file) {
			names[name]++
		}
	}
	for _, file := range files {
		ast.Inspect(file, func(n ast.Node) bool {
			for _, e := range writtenTo(n) {
				if names[baseName(e)] > 0 {
					t.Errorf("%s: the package's variable %s is written to", set.Position(n.Pos()), baseName(e))
				}
			}
			return true
		})
	}
}

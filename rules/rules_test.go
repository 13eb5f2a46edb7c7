// Package rules: tests that the program keeps to the part of the language that it is written in.
package rules

import (
	"bytes"
	"crypto/sha256"
	"fmt"
	"go/ast"
	"go/format"
	"go/parser"
	"go/token"
	"os"
	"path/filepath"
	"slices"
	"strings"
	"testing"
)

const (
	root     = ".."
	module   = "pixels/"
	mostRows = 40
)

// apiSum: SHA-256 of api.go as it was given.
const apiSum = "3c409eee4f337aad80c206c3758b7d456eea65e9191e6f3eff3eba2404aa0909"

// notOurs: folders whose files are not the program's.
var notOurs = []string{".git", ".ci", "sharedtests", "rules"}

// banned: names that have no place in the program.
var banned = []string{"panic", "recover", "cap", "float32", "float64", "complex64", "complex128", "complex", "real", "imag", "any", "error", "comparable", "uintptr", "print", "println"}

// sources: the program's Go files, and what else stands in its folders.
func sources(t *testing.T) (code, others []string) {
	t.Helper()
	e := filepath.WalkDir(root, func(path string, d os.DirEntry, e error) error {
		if e != nil {
			return e
		}
		if d.IsDir() {
			if slices.Contains(notOurs, d.Name()) {
				return filepath.SkipDir
			}
			return nil
		}
		switch {
		case strings.HasSuffix(path, "_test.go"):
		case strings.HasSuffix(path, ".go"):
			code = append(code, path)
		case filepath.Dir(path) != root:
			others = append(others, path)
		}
		return nil
	})
	if e != nil {
		t.Fatal(e)
	}
	return code, others
}

func TestGivenPackage(t *testing.T) {
	b, e := os.ReadFile(filepath.Join(root, "api", "api.go"))
	if e != nil {
		t.Fatal(e)
	}
	if got := fmt.Sprintf("%x", sha256.Sum256(b)); got != apiSum {
		t.Errorf("api.go was changed: %s", got)
	}
	l, e := os.ReadDir(filepath.Join(root, "api"))
	if e != nil || len(l) != 1 {
		t.Errorf("api.go stands alone in its folder: %v, %v", l, e)
	}
}

func TestFiles(t *testing.T) {
	code, others := sources(t)
	if len(code) < 6 {
		t.Fatalf("the program's files were not found: %v", code)
	}
	if len(others) != 0 {
		t.Errorf("files beside the Go files: %v", others)
	}
	for _, path := range code {
		checkFile(t, path)
	}
}

func checkFile(t *testing.T, path string) {
	t.Helper()
	b, e := os.ReadFile(path)
	if e != nil {
		t.Fatal(e)
	}
	if f, e := format.Source(b); e != nil || !bytes.Equal(f, b) {
		t.Errorf("%s: not in gofmt's layout: %v", path, e)
	}
	if bytes.Contains(b, []byte("//go:")) || bytes.Contains(b, []byte("// +build")) {
		t.Errorf("%s: a line for the compiler", path)
	}
	files := token.NewFileSet()
	f, e := parser.ParseFile(files, path, b, parser.SkipObjectResolution)
	if e != nil {
		t.Fatal(e)
	}
	checkName(t, path, f.Name.Name)
	for _, s := range f.Imports {
		name := strings.Trim(s.Path.Value, `"`)
		if name != "strconv" && !strings.HasPrefix(name, module) || s.Name != nil {
			t.Errorf("%s: imports %s", path, name)
		}
	}
	for _, d := range f.Decls {
		checkDeclaration(t, files, d)
	}
	ast.Inspect(f, func(n ast.Node) bool {
		if why := wrong(n); why != "" {
			t.Errorf("%s: %s", files.Position(n.Pos()), why)
		}
		return true
	})
}

func checkName(t *testing.T, path, name string) {
	t.Helper()
	folder := filepath.Base(filepath.Dir(path))
	if name != folder {
		t.Errorf("%s: package %s", path, name)
	}
	if name == "form" || name == "try" || name != "pixels" && strings.HasPrefix(name, "pixels") {
		t.Errorf("%s: a package may not be named %s", path, name)
	}
}

// checkDeclaration: short functions, and no package-level variable but arrays.
func checkDeclaration(t *testing.T, files *token.FileSet, d ast.Decl) {
	t.Helper()
	at := files.Position(d.Pos())
	switch d := d.(type) {
	case *ast.FuncDecl:
		if rows := files.Position(d.End()).Line - at.Line + 1; rows > mostRows {
			t.Errorf("%s: %s has %d lines", at, d.Name.Name, rows)
		}
		if d.Name.Name == "init" || d.Type.TypeParams != nil {
			t.Errorf("%s: %s", at, d.Name.Name)
		}
	case *ast.GenDecl:
		if d.Tok != token.VAR {
			return
		}
		for _, s := range d.Specs {
			if !isTable(s.(*ast.ValueSpec)) {
				t.Errorf("%s: a variable that is no table", at)
			}
		}
	}
}

func isTable(s *ast.ValueSpec) bool {
	if len(s.Values) != 1 {
		return false
	}
	l, ok := s.Values[0].(*ast.CompositeLit)
	if !ok {
		return false
	}
	a, ok := l.Type.(*ast.ArrayType)
	return ok && a.Len != nil
}

// mostWords: a table of more is made by a function instead.
const mostWords = 200

// Tables are short, hold constants, and nothing changes, slices or points at them.
func TestTables(t *testing.T) {
	code, _ := sources(t)
	for _, path := range code {
		files := token.NewFileSet()
		f, e := parser.ParseFile(files, path, nil, parser.SkipObjectResolution)
		if e != nil {
			t.Fatal(e)
		}
		tables := tablesOf(f)
		for _, s := range tables {
			if n := words(s.Values[0]); n < 1 || n > mostWords {
				t.Errorf("%s: a table of %d", files.Position(s.Pos()), n)
			}
		}
		ast.Inspect(f, func(n ast.Node) bool {
			if x := touched(n); x != nil && isOf(x, tables) {
				t.Errorf("%s: a table is more than read", files.Position(n.Pos()))
			}
			return true
		})
	}
}

func tablesOf(f *ast.File) []*ast.ValueSpec {
	var l []*ast.ValueSpec
	for _, d := range f.Decls {
		if g, ok := d.(*ast.GenDecl); ok && g.Tok == token.VAR {
			for _, s := range g.Specs {
				l = append(l, s.(*ast.ValueSpec))
			}
		}
	}
	return l
}

// words: how many numbers or texts a table has; -1, if it has anything else.
func words(e ast.Expr) int {
	switch e := e.(type) {
	case *ast.CompositeLit:
		all := 0
		for _, x := range e.Elts {
			n := words(x)
			if n < 0 {
				return -1
			}
			all += n
		}
		return all
	case *ast.BasicLit:
		return 1
	case *ast.UnaryExpr:
		return words(e.X)
	}
	return -1
}

// touched: what a statement or expression changes, slices or points at.
func touched(n ast.Node) ast.Expr {
	switch n := n.(type) {
	case *ast.SliceExpr:
		return n.X
	case *ast.UnaryExpr:
		if n.Op == token.AND {
			return n.X
		}
	case *ast.IncDecStmt:
		return n.X
	case *ast.AssignStmt:
		if len(n.Lhs) == 1 && n.Tok != token.DEFINE {
			return n.Lhs[0]
		}
	}
	return nil
}

func isOf(e ast.Expr, tables []*ast.ValueSpec) bool {
	for {
		i, ok := e.(*ast.IndexExpr)
		if !ok {
			break
		}
		e = i.X
	}
	id, ok := e.(*ast.Ident)
	return ok && slices.ContainsFunc(tables, func(s *ast.ValueSpec) bool { return s.Names[0].Name == id.Name })
}

// wrong: why this has no place in the program, or nothing.
func wrong(n ast.Node) string {
	switch n := n.(type) {
	case *ast.GoStmt, *ast.SelectStmt, *ast.SendStmt, *ast.ChanType:
		return "goroutines and channels"
	case *ast.DeferStmt:
		return "defer"
	case *ast.MapType:
		return "a map"
	case *ast.InterfaceType, *ast.TypeAssertExpr, *ast.TypeSwitchStmt:
		return "an interface"
	case *ast.FuncLit:
		return "a closure"
	case *ast.BasicLit:
		if n.Kind == token.FLOAT || n.Kind == token.IMAG {
			return "a float"
		}
	case *ast.Ident:
		if slices.Contains(banned, n.Name) {
			return n.Name
		}
	case *ast.Field:
		if _, ok := n.Type.(*ast.FuncType); ok {
			return "a function value"
		}
	case *ast.TypeSpec:
		if n.TypeParams != nil {
			return "generics"
		}
	case *ast.AssignStmt:
		return wrongTargets(n)
	}
	return ""
}

// wrongTargets: several targets at once are plain names.
func wrongTargets(n *ast.AssignStmt) string {
	if len(n.Lhs) < 2 {
		return ""
	}
	for _, l := range n.Lhs {
		if _, ok := l.(*ast.Ident); !ok {
			return "several targets, one of them no plain name"
		}
	}
	return ""
}

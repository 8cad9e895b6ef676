package tests

import (
	"bytes"
	"go/ast"
	"go/format"
	"go/parser"
	"go/token"
	"os"
	"path/filepath"
	"strings"
	"testing"
)

// allowed are the packages that the program may import.
const allowed = " bytes cmp container/heap errors iter maps math math/bits slices sort strconv strings sync sync/atomic unicode unicode/utf8 "

// TestTheProgramKeepsToItsLanguage looks for what can be seen in its text alone: imports, layout, long functions, variables at package level.
func TestTheProgramKeepsToItsLanguage(t *testing.T) {
	files, err := filepath.Glob("../impl/*")
	if err != nil || len(files) == 0 {
		t.Fatal("no program", err)
	}
	for _, name := range files {
		if !strings.HasSuffix(name, ".go") {
			t.Errorf("%s is no Go file", name)
			continue
		}
		source, err := os.ReadFile(name)
		if err != nil {
			t.Fatal(err)
		}
		if laid, err := format.Source(source); err != nil || !bytes.Equal(laid, source) {
			t.Errorf("%s is not laid out by gofmt", name)
		}
		fset := token.NewFileSet()
		file, err := parser.ParseFile(fset, name, source, parser.ParseComments)
		if err != nil {
			t.Fatal(err)
		}
		lookAtFile(t, fset, name, file)
	}
}

func lookAtFile(t *testing.T, fset *token.FileSet, name string, file *ast.File) {
	for _, i := range file.Imports {
		if path := strings.Trim(i.Path.Value, `"`); !strings.Contains(allowed, " "+path+" ") {
			t.Errorf("%s imports %s", name, path)
		}
	}
	for _, group := range file.Comments {
		for _, c := range group.List {
			if strings.HasPrefix(c.Text, "//go:") || strings.HasPrefix(c.Text, "// +build") {
				t.Errorf("%s: %s", name, c.Text)
			}
		}
	}
	for _, d := range file.Decls {
		switch x := d.(type) {
		case *ast.GenDecl:
			for _, s := range x.Specs {
				if v, ok := s.(*ast.ValueSpec); ok && x.Tok == token.VAR {
					lookAtVariable(t, name, v)
				}
			}
		case *ast.FuncDecl:
			if lines := fset.Position(x.End()).Line - fset.Position(x.Pos()).Line + 1; lines > 60 {
				t.Errorf("%s: %s has %d lines", name, x.Name.Name, lines)
			}
			if x.Name.IsExported() {
				lookForTypes(t, name, x)
			}
		}
	}
}

// lookAtVariable asks for a value that is written out, of no map and no function.
func lookAtVariable(t *testing.T, name string, v *ast.ValueSpec) {
	if len(v.Values) == 0 {
		t.Errorf("%s: %s has no value of its own", name, v.Names[0].Name)
	}
	ast.Inspect(v, func(n ast.Node) bool {
		switch n.(type) {
		case *ast.MapType, *ast.FuncLit, *ast.FuncType:
			t.Errorf("%s: %s is of a map or a function", name, v.Names[0].Name)
		}
		return true
	})
}

// lookForTypes asks that a function that the document lists leaves it to others what type a value has.
func lookForTypes(t *testing.T, name string, f *ast.FuncDecl) {
	ast.Inspect(f, func(n ast.Node) bool {
		switch n.(type) {
		case *ast.TypeSwitchStmt, *ast.TypeAssertExpr:
			t.Errorf("%s: %s asks for a type", name, f.Name.Name)
		}
		return true
	})
}

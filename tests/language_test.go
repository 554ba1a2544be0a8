package tests

import (
	"bytes"
	"go/ast"
	"go/format"
	"go/parser"
	"go/token"
	"os"
	"path/filepath"
	"strings"
	"testing"
)

const allowedImports = " bytes cmp container/heap errors iter maps math math/big math/bits slices sort strconv strings sync sync/atomic unicode unicode/utf8 "

// mostLines is what a function of the program may have.
const mostLines = 60

func sources(t *testing.T, folder string) []string {
	names, err := filepath.Glob(filepath.Join("..", folder, "*.go"))
	if err != nil || len(names) == 0 {
		t.Fatalf("no files in %s: %v", folder, err)
	}
	return names
}

func TestTheLayoutIsGofmts(t *testing.T) {
	for _, name := range append(sources(t, "impl"), sources(t, "tests")...) {
		text, err := os.ReadFile(name)
		if err != nil {
			t.Fatal(err)
		}
		if laid, err := format.Source(text); err != nil || !bytes.Equal(text, laid) {
			t.Errorf("%s: not gofmt's layout (%v)", name, err)
		}
	}
}

func TestTheProgramKeepsToItsImportsAndSizes(t *testing.T) {
	set := token.NewFileSet()
	for _, name := range sources(t, "impl") {
		file, err := parser.ParseFile(set, name, nil, parser.ParseComments)
		if err != nil {
			t.Fatal(err)
		}
		for _, i := range file.Imports {
			if path := strings.Trim(i.Path.Value, "\""); !strings.Contains(allowedImports, " "+path+" ") {
				t.Errorf("%s imports %s", name, path)
			}
		}
		for _, group := range file.Comments {
			for _, line := range group.List {
				if strings.HasPrefix(line.Text, "//go:") {
					t.Errorf("%s: %s", name, line.Text)
				}
			}
		}
		for _, d := range file.Decls {
			f, ok := d.(*ast.FuncDecl)
			if ok && set.Position(f.End()).Line-set.Position(f.Pos()).Line >= mostLines {
				t.Errorf("%s: %s is too long", name, f.Name.Name)
			}
		}
	}
}

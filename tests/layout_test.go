package tests

import (
	"bytes"
	"go/ast"
	"go/format"
	"go/parser"
	"go/token"
	"os"
	"path/filepath"
	"strings"
	"testing"
)

// allowedImports are those of the language page.
const allowedImports = " bytes cmp container/heap errors iter maps math math/big math/bits slices sort strconv strings sync sync/atomic unicode unicode/utf8 "

func TestProgramLayout(t *testing.T) {
	files, err := filepath.Glob("../impl/*.go")
	if err != nil || len(files) != 6 {
		t.Fatalf("files of the program: %v, %v", files, err)
	}
	for _, name := range files {
		text, err := os.ReadFile(name)
		if err != nil {
			t.Fatal(err)
		}
		if nice, err := format.Source(text); err != nil || !bytes.Equal(nice, text) {
			t.Errorf("%s is not in gofmt's layout (%v)", name, err)
		}
		if bytes.Contains(text, []byte("//go:")) {
			t.Errorf("%s has a //go: line", name)
		}
		set := token.NewFileSet()
		file, err := parser.ParseFile(set, name, text, 0)
		if err != nil {
			t.Fatal(err)
		}
		lookAtImports(t, name, file)
		lookAtLengths(t, name, set, file)
	}
}

func lookAtImports(t *testing.T, name string, file *ast.File) {
	for _, i := range file.Imports {
		if path := strings.Trim(i.Path.Value, "\""); !strings.Contains(allowedImports, " "+path+" ") {
			t.Errorf("%s imports %s", name, path)
		}
	}
}

func lookAtLengths(t *testing.T, name string, set *token.FileSet, file *ast.File) {
	for _, d := range file.Decls {
		if f, ok := d.(*ast.FuncDecl); ok {
			if lines := set.Position(f.End()).Line - set.Position(f.Pos()).Line + 1; lines > 60 {
				t.Errorf("%s: %s has %d lines", name, f.Name.Name, lines)
			}
		}
	}
}

package tests

import (
	"bytes"
	"go/format"
	"go/parser"
	"go/token"
	"os"
	"path/filepath"
	"strconv"
	"strings"
	"testing"
)

const allowedImports = " bytes cmp container/heap errors iter maps math math/bits slices sort strconv strings sync sync/atomic unicode unicode/utf8 "

func TestProgramKeepsToItsLanguage(t *testing.T) {
	files, err := filepath.Glob("../impl/*")
	if err != nil || len(files) == 0 {
		t.Fatal("no files", err)
	}
	for _, name := range files {
		if !strings.HasSuffix(name, ".go") {
			t.Errorf("%s: beside the Go files", name)
			continue
		}
		checkFile(t, name)
	}
}

func checkFile(t *testing.T, name string) {
	t.Helper()
	text, err := os.ReadFile(name)
	if err != nil {
		t.Fatal(err)
	}
	if laid, err := format.Source(text); err != nil || !bytes.Equal(laid, text) {
		t.Errorf("%s: not in gofmt's layout (%v)", name, err)
	}
	if bytes.Contains(text, []byte("//go:")) {
		t.Errorf("%s: a //go: line", name)
	}
	f, err := parser.ParseFile(token.NewFileSet(), name, text, parser.ImportsOnly)
	if err != nil {
		t.Fatal(err)
	}
	for _, i := range f.Imports {
		path, err := strconv.Unquote(i.Path.Value)
		if err != nil || !strings.Contains(allowedImports, " "+path+" ") {
			t.Errorf("%s: imports %s", name, i.Path.Value)
		}
	}
}

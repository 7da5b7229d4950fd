package tests

import (
	"go/ast"
	"go/parser"
	"go/token"
	"testing"
)

func functionsOf(t *testing.T, file string) map[string]*ast.FuncDecl {
	t.Helper()
	f, err := parser.ParseFile(token.NewFileSet(), "../impl/"+file, nil, 0)
	if err != nil {
		t.Fatal(err)
	}
	all := map[string]*ast.FuncDecl{}
	for _, d := range f.Decls {
		if fn, ok := d.(*ast.FuncDecl); ok {
			all[fn.Name.Name] = fn
		}
	}
	return all
}

func isVariadic(fn *ast.FuncDecl) bool {
	for _, p := range fn.Type.Params.List {
		if _, ok := p.Type.(*ast.Ellipsis); ok {
			return true
		}
	}
	return false
}

// Ways, 1: parts are put by variadic functions.
func TestPartsArePutByVariadicFunctions(t *testing.T) {
	all := functionsOf(t, "l01_tlv.go")
	found := false
	ast.Inspect(all["PutTlv"], func(n ast.Node) bool {
		if call, ok := n.(*ast.CallExpr); ok {
			if name, ok := call.Fun.(*ast.Ident); ok && all[name.Name] != nil {
				found = found || isVariadic(all[name.Name])
			}
		}
		return true
	})
	if !found {
		t.Error("PutTlv calls no variadic function")
	}
}

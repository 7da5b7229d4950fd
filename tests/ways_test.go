package tests

import (
	"go/ast"
	"go/importer"
	"go/parser"
	"go/token"
	"go/types"
	"path/filepath"
	"slices"
	"testing"
)

func functionsOf(t *testing.T, file string) map[string]*ast.FuncDecl {
	t.Helper()
	f, err := parser.ParseFile(token.NewFileSet(), "../impl/"+file, nil, 0)
	if err != nil {
		t.Fatal(err)
	}
	all := map[string]*ast.FuncDecl{}
	for _, d := range f.Decls {
		if fn, ok := d.(*ast.FuncDecl); ok {
			all[fn.Name.Name] = fn
		}
	}
	return all
}

func isVariadic(fn *ast.FuncDecl) bool {
	for _, p := range fn.Type.Params.List {
		if _, ok := p.Type.(*ast.Ellipsis); ok {
			return true
		}
	}
	return false
}

// Ways, 1: parts are put by variadic functions.
func TestPartsArePutByVariadicFunctions(t *testing.T) {
	all := functionsOf(t, "l01_tlv.go")
	found := false
	ast.Inspect(all["PutTlv"], func(n ast.Node) bool {
		if call, ok := n.(*ast.CallExpr); ok {
			if name, ok := call.Fun.(*ast.Ident); ok && all[name.Name] != nil {
				found = found || isVariadic(all[name.Name])
			}
		}
		return true
	})
	if !found {
		t.Error("PutTlv calls no variadic function")
	}
}

// typesOf checks the program's types, so that a test can ask what is ranged over, compared or called.
func typesOf(t *testing.T) (*token.FileSet, []*ast.File, *types.Info) {
	t.Helper()
	names, err := filepath.Glob("../impl/*.go")
	if err != nil || len(names) == 0 {
		t.Fatal("no files", err)
	}
	fset := token.NewFileSet()
	var files []*ast.File
	for _, name := range names {
		f, err := parser.ParseFile(fset, name, nil, 0)
		if err != nil {
			t.Fatal(err)
		}
		files = append(files, f)
	}
	info := &types.Info{Types: map[ast.Expr]types.TypeAndValue{}, Defs: map[*ast.Ident]types.Object{}, Selections: map[*ast.SelectorExpr]*types.Selection{}}
	config := types.Config{Importer: importer.ForCompiler(fset, "source", nil)}
	if _, err := config.Check("impl", fset, files, info); err != nil {
		t.Fatal(err)
	}
	return fset, files, info
}

// Ways, 2: numbers come out of an iterator.
func TestNumbersOfNamesComeOutOfAnIterator(t *testing.T) {
	fset, files, info := typesOf(t)
	found := false
	for _, f := range files {
		if filepath.Base(fset.Position(f.Pos()).Filename) != "l02_oid.go" {
			continue
		}
		ast.Inspect(f, func(n ast.Node) bool {
			if loop, ok := n.(*ast.RangeStmt); ok {
				_, isFunction := info.Types[loop.X].Type.Underlying().(*types.Signature)
				found = found || isFunction
			}
			return true
		})
	}
	if !found {
		t.Error("l02_oid.go ranges over no function")
	}
}

// switchedOver finds what interface each type switch of a file asks.
func switchedOver(f *ast.File, info *types.Info) []*types.Interface {
	var all []*types.Interface
	ast.Inspect(f, func(n ast.Node) bool {
		choice, ok := n.(*ast.TypeSwitchStmt)
		if !ok {
			return true
		}
		ast.Inspect(choice.Assign, func(n ast.Node) bool {
			if asked, ok := n.(*ast.TypeAssertExpr); ok {
				if face, ok := info.Types[asked.X].Type.Underlying().(*types.Interface); ok {
					all = append(all, face)
				}
			}
			return true
		})
		return true
	})
	return all
}

// typesWith counts the types of a file that have a face, and are not one themselves.
func typesWith(f *ast.File, info *types.Info, face *types.Interface) int {
	count := 0
	ast.Inspect(f, func(n ast.Node) bool {
		if spec, ok := n.(*ast.TypeSpec); ok {
			made := info.Defs[spec.Name].Type()
			if !types.IsInterface(made) && types.Implements(made, face) {
				count++
			}
		}
		return true
	})
	return count
}

// Ways, 3: a value within is an interface with a type for each kind, told by a type switch.
func TestValuesWithinAreToldByATypeSwitch(t *testing.T) {
	fset, files, info := typesOf(t)
	found := false
	for _, f := range files {
		if filepath.Base(fset.Position(f.Pos()).Filename) != "l03_val.go" {
			continue
		}
		for _, face := range switchedOver(f, info) {
			found = found || face.NumMethods() > 0 && typesWith(f, info, face) == len(valKinds)
		}
	}
	if !found {
		t.Error("l03_val.go has no type switch over an interface with a type for each kind")
	}
}

// calledIn names all that is called within a piece of the program.
func calledIn(piece ast.Node) []string {
	var names []string
	ast.Inspect(piece, func(n ast.Node) bool {
		if call, ok := n.(*ast.CallExpr); ok {
			switch what := call.Fun.(type) {
			case *ast.Ident:
				names = append(names, what.Name)
			case *ast.SelectorExpr:
				names = append(names, what.Sel.Name)
			}
		}
		return true
	})
	return names
}

// reaches tells whether a function calls what is named, itself or by others of its file.
func reaches(all map[string]*ast.FuncDecl, from string, named string) bool {
	seen := map[string]bool{}
	for work := []string{from}; len(work) > 0; work = work[1:] {
		name := work[0]
		if name == named {
			return true
		}
		if fn := all[name]; fn != nil && !seen[name] {
			seen[name] = true
			work = append(work, calledIn(fn)...)
		}
	}
	return false
}

// Ways, 4: what cannot be read gives up by a panic, which a deferred recover at the face catches.
func TestRequestsThatCannotBeReadGiveUpByAPanic(t *testing.T) {
	all := functionsOf(t, "l04_pdu.go")
	caught := false
	ast.Inspect(all["GetPdu"], func(n ast.Node) bool {
		if last, ok := n.(*ast.DeferStmt); ok {
			literal, isLiteral := last.Call.Fun.(*ast.FuncLit)
			caught = caught || isLiteral && slices.Contains(calledIn(literal), "recover")
		}
		return true
	})
	if !caught {
		t.Error("GetPdu defers no recover")
	}
	if !reaches(all, "GetPdu", "panic") {
		t.Error("GetPdu reaches no panic")
	}
}

// askedForByAs finds what types a file's calls of errors.As ask for.
func askedForByAs(f *ast.File, info *types.Info) []types.Type {
	var all []types.Type
	ast.Inspect(f, func(n ast.Node) bool {
		call, ok := n.(*ast.CallExpr)
		if !ok || types.ExprString(call.Fun) != "errors.As" || len(call.Args) != 2 {
			return true
		}
		if room, ok := info.Types[call.Args[1]].Type.(*types.Pointer); ok {
			all = append(all, room.Elem())
		}
		return true
	})
	return all
}

// Ways, 5: what is wrong is an error of a type of its own, asked for by errors.As.
func TestWrongMessagesAreErrorsOfATypeOfTheirOwn(t *testing.T) {
	if !reaches(functionsOf(t, "l05_msg.go"), "GetMsg", "As") {
		t.Error("GetMsg does not ask by errors.As")
	}
	fset, files, info := typesOf(t)
	face := types.Universe.Lookup("error").Type().Underlying().(*types.Interface)
	found := false
	for _, f := range files {
		if filepath.Base(fset.Position(f.Pos()).Filename) != "l05_msg.go" {
			continue
		}
		for _, asked := range askedForByAs(f, info) {
			found = found || !types.IsInterface(asked) && types.Implements(asked, face)
		}
		if typesWith(f, info, face) == 0 {
			t.Error("l05_msg.go has no error of a type of its own")
		}
	}
	if !found {
		t.Error("l05_msg.go asks for no error of a type of its own by errors.As")
	}
}

// cutsByThreeIndexes tells whether a function has a slice expression with three indexes.
func cutsByThreeIndexes(fn *ast.FuncDecl) bool {
	found := false
	ast.Inspect(fn, func(n ast.Node) bool {
		if cut, ok := n.(*ast.SliceExpr); ok {
			found = found || cut.Slice3
		}
		return true
	})
	return found
}

// Ways, 6: a frame's bytes are cut by three indexes.
func TestBytesOfFramesAreCutByThreeIndexes(t *testing.T) {
	all := functionsOf(t, "l06_frame.go")
	found := false
	for name, fn := range all {
		found = found || cutsByThreeIndexes(fn) && reaches(all, "GetFrame", name)
	}
	if !found {
		t.Error("GetFrame cuts nothing by three indexes")
	}
}

// isNamed tells whether a type is the one that the program gives this name.
func isNamed(what types.Type, name string) bool {
	named, ok := what.(*types.Named)
	return ok && named.Obj().Name() == name
}

// comparesWhole tells whether a function holds two values of the named type against each other.
func comparesWhole(fn *ast.FuncDecl, info *types.Info, name string) bool {
	found := false
	ast.Inspect(fn, func(n ast.Node) bool {
		if two, ok := n.(*ast.BinaryExpr); ok && (two.Op == token.EQL || two.Op == token.NEQ) {
			found = found || isNamed(info.Types[two.X].Type, name)
		}
		return true
	})
	return found
}

// holdsInArray tells whether a function has an array of the named type.
func holdsInArray(fn *ast.FuncDecl, info *types.Info, name string) bool {
	found := false
	ast.Inspect(fn, func(n ast.Node) bool {
		if row, ok := n.(*ast.ArrayType); ok && row.Len != nil {
			found = found || isNamed(info.Types[row.Elt].Type, name)
		}
		return true
	})
	return found
}

// functionsIn are the functions of one file among those whose types were checked.
func functionsIn(fset *token.FileSet, files []*ast.File, file string) map[string]*ast.FuncDecl {
	all := map[string]*ast.FuncDecl{}
	for _, f := range files {
		if filepath.Base(fset.Position(f.Pos()).Filename) != file {
			continue
		}
		for _, d := range f.Decls {
			if fn, ok := d.(*ast.FuncDecl); ok {
				all[fn.Name.Name] = fn
			}
		}
	}
	return all
}

// Ways, 7: vectors are compared as structs, held in an array.
func TestVectorsAreComparedAsStructs(t *testing.T) {
	fset, files, info := typesOf(t)
	all := functionsIn(fset, files, "l07_vec.go")
	compared, held := false, false
	for name, fn := range all {
		if reaches(all, "VecOk", name) {
			compared = compared || comparesWhole(fn, info, "Vec")
			held = held || holdsInArray(fn, info, "Vec")
		}
	}
	if !compared {
		t.Error("VecOk compares no vectors as structs")
	}
	if !held {
		t.Error("VecOk holds no vectors in an array")
	}
}

// deletesByStruct tells whether a function deletes entries of the named type from a map whose keys are structs.
func deletesByStruct(fn *ast.FuncDecl, info *types.Info, name string) bool {
	found := false
	ast.Inspect(fn, func(n ast.Node) bool {
		call, ok := n.(*ast.CallExpr)
		if !ok || types.ExprString(call.Fun) != "delete" {
			return true
		}
		if from, ok := info.Types[call.Args[0]].Type.Underlying().(*types.Map); ok {
			_, byStruct := from.Key().Underlying().(*types.Struct)
			found = found || byStruct && isNamed(from.Elem(), name)
		}
		return true
	})
	return found
}

// Ways, 8: entries stand in a map by a struct, from which those that are old are deleted.
func TestOldEntriesAreDeletedFromAMap(t *testing.T) {
	fset, files, info := typesOf(t)
	all := functionsIn(fset, files, "l08_fdb.go")
	found := false
	for name, fn := range all {
		found = found || deletesByStruct(fn, info, "Fent") && reaches(all, "AgeAll", name)
	}
	if !found {
		t.Error("AgeAll deletes no entries from a map by a struct")
	}
}

// isGenericOver tells whether a type is a generic one, in the form that it has for the named type.
func isGenericOver(what types.Type, name string) bool {
	if to, ok := what.(*types.Pointer); ok {
		what = to.Elem()
	}
	named, ok := what.(*types.Named)
	if !ok {
		return false
	}
	for i := range named.TypeArgs().Len() {
		if isNamed(named.TypeArgs().At(i), name) {
			return named.Obj().Pkg() != nil && named.Obj().Pkg().Name() == "impl"
		}
	}
	return false
}

// callsOnGeneric tells whether a function calls a method of a generic type of the program's own over the named type.
func callsOnGeneric(fn *ast.FuncDecl, info *types.Info, name string) bool {
	found := false
	ast.Inspect(fn, func(n ast.Node) bool {
		if call, ok := n.(*ast.CallExpr); ok {
			if method, ok := call.Fun.(*ast.SelectorExpr); ok {
				found = found || isGenericOver(info.Types[method.X].Type, name)
			}
		}
		return true
	})
	return found
}

// Ways, 9: rows are a generic type in order.
func TestRowsAreAGenericType(t *testing.T) {
	fset, files, info := typesOf(t)
	all := functionsIn(fset, files, "l09_vlan.go")
	for _, name := range []string{"VtabOk", "RowAt", "PutRow", "DropRow"} {
		if !callsOnGeneric(all[name], info, "Vrow") {
			t.Errorf("%s asks nothing of rows of a generic type", name)
		}
	}
}

// rowOfConstants finds the group of constants in which the named one stands.
func rowOfConstants(f *ast.File, named string) []*ast.ValueSpec {
	for _, d := range f.Decls {
		group, ok := d.(*ast.GenDecl)
		if !ok || group.Tok != token.CONST {
			continue
		}
		var row []*ast.ValueSpec
		found := false
		for _, s := range group.Specs {
			spec := s.(*ast.ValueSpec)
			row = append(row, spec)
			found = found || spec.Names[0].Name == named
		}
		if found {
			return row
		}
	}
	return nil
}

// names tells whether a piece of the program has this name in it.
func names(piece ast.Node, name string) bool {
	found := false
	ast.Inspect(piece, func(n ast.Node) bool {
		if id, ok := n.(*ast.Ident); ok {
			found = found || id.Name == name
		}
		return true
	})
	return found
}

// Ways, 10: what a port is for is a constant with iota.
func TestWhatAPortIsForIsAConstantWithIota(t *testing.T) {
	fset, files, _ := typesOf(t)
	roles := []string{"RoRoot", "RoTold", "RoIdle", "RoDown"}
	for _, f := range files {
		if filepath.Base(fset.Position(f.Pos()).Filename) != "l10_role.go" {
			continue
		}
		row := rowOfConstants(f, roles[0])
		if len(row) != len(roles) {
			t.Fatalf("%d constants stand with %s", len(row), roles[0])
		}
		for i, spec := range row {
			if spec.Names[0].Name != roles[i] || (len(spec.Values) > 0) != (i == 0) {
				t.Errorf("%s stands as the constant %d, with %d values of its own", spec.Names[0].Name, i, len(spec.Values))
			}
		}
		if !names(row[0], "iota") {
			t.Error("RoRoot is told without iota")
		}
	}
	for _, role := range roles {
		if !names(functionsOf(t, "l10_role.go")["RoleOf"], role) {
			t.Errorf("RoleOf does not name %s", role)
		}
	}
}

// isRowOf tells whether a type is a list of the named type.
func isRowOf(what types.Type, name string) bool {
	row, ok := what.Underlying().(*types.Slice)
	return ok && isNamed(row.Elem(), name)
}

// callsPromoted tells whether a function calls a method that a list of the named type, embedded in what has it, promotes.
func callsPromoted(fn *ast.FuncDecl, info *types.Info, name string) bool {
	found := false
	ast.Inspect(fn, func(n ast.Node) bool {
		call, ok := n.(*ast.CallExpr)
		if !ok {
			return true
		}
		method, ok := call.Fun.(*ast.SelectorExpr)
		if !ok {
			return true
		}
		if chosen := info.Selections[method]; chosen != nil && chosen.Kind() == types.MethodVal && len(chosen.Index()) > 1 {
			found = found || isRowOf(chosen.Obj().(*types.Func).Signature().Recv().Type(), name)
		}
		return true
	})
	return found
}

// Ways, 11: a bridge embeds its ports, whose methods are promoted.
func TestABridgeEmbedsItsPorts(t *testing.T) {
	fset, files, info := typesOf(t)
	all := functionsIn(fset, files, "l11_bridge.go")
	for _, name := range []string{"HearVec", "LinkSet"} {
		if !callsPromoted(all[name], info, "Pt") {
			t.Errorf("%s calls no method that embedded ports promote", name)
		}
	}
	found := false
	for name, fn := range all {
		found = found || callsPromoted(fn, info, "Pt") && reaches(all, "Tick", name)
	}
	if !found {
		t.Error("Tick reaches no method that embedded ports promote")
	}
}

// rangesOverInteger tells whether a function has a loop over an integer.
func rangesOverInteger(fn *ast.FuncDecl, info *types.Info) bool {
	found := false
	ast.Inspect(fn, func(n ast.Node) bool {
		if loop, ok := n.(*ast.RangeStmt); ok {
			count, isBasic := info.Types[loop.X].Type.Underlying().(*types.Basic)
			found = found || isBasic && count.Info()&types.IsInteger != 0
		}
		return true
	})
	return found
}

// Ways, 12: where it goes is a range over an integer.
func TestWhereAFrameGoesIsARangeOverAnInteger(t *testing.T) {
	fset, files, info := typesOf(t)
	all := functionsIn(fset, files, "l12_forward.go")
	found := false
	for name, fn := range all {
		found = found || rangesOverInteger(fn, info) && reaches(all, "Forward", name)
	}
	if !found {
		t.Error("Forward ranges over no integer")
	}
}

// answersPointerTo tells whether a function answers a pointer to the named type.
func answersPointerTo(fn *ast.FuncDecl, info *types.Info, name string) bool {
	results := info.Defs[fn.Name].(*types.Func).Signature().Results()
	for i := range results.Len() {
		if p, ok := results.At(i).Type().(*types.Pointer); ok && isNamed(p.Elem(), name) {
			return true
		}
	}
	return false
}

// Ways, 13: bridges are reached by pointers.
func TestBridgesAreReachedByPointers(t *testing.T) {
	fset, files, info := typesOf(t)
	all := functionsIn(fset, files, "l13_net.go")
	for _, from := range []string{"NetNew", "NetOk", "LinkUp"} {
		found := false
		for name, fn := range all {
			found = found || answersPointerTo(fn, info, "Bridge") && reaches(all, from, name)
		}
		if !found {
			t.Errorf("%s reaches no bridge by a pointer", from)
		}
	}
}

// tabledMethods names the methods of which a function has a method expression in a table.
func tabledMethods(fn *ast.FuncDecl, info *types.Info) map[string]int {
	all := map[string]int{}
	ast.Inspect(fn, func(n ast.Node) bool {
		table, ok := n.(*ast.CompositeLit)
		if !ok {
			return true
		}
		if _, isArray := info.Types[table].Type.Underlying().(*types.Array); !isArray {
			return true
		}
		ast.Inspect(table, func(n ast.Node) bool {
			if what, ok := n.(*ast.SelectorExpr); ok {
				if chosen := info.Selections[what]; chosen != nil && chosen.Kind() == types.MethodExpr {
					all[chosen.Obj().Name()]++
				}
			}
			return true
		})
		return false
	})
	return all
}

// Ways, 14: what a kind does is a method expression in a table.
func TestWhatAKindDoesIsAMethodExpressionInATable(t *testing.T) {
	fset, files, info := typesOf(t)
	all := functionsIn(fset, files, "l14_step.go")
	most := 0
	for name, fn := range all {
		if reaches(all, "Step", name) {
			most = max(most, len(tabledMethods(fn, info)))
		}
	}
	if most < len(allKinds()) {
		t.Errorf("Step reaches no table with a method expression for each kind (%d)", most)
	}
}

// storesByNumber tells whether a function stores into a map whose keys are integers.
func storesByNumber(fn *ast.FuncDecl, info *types.Info) bool {
	found := false
	ast.Inspect(fn, func(n ast.Node) bool {
		set, ok := n.(*ast.AssignStmt)
		if !ok {
			return true
		}
		for _, to := range set.Lhs {
			at, ok := to.(*ast.IndexExpr)
			if !ok {
				continue
			}
			if what, ok := info.Types[at.X].Type.Underlying().(*types.Map); ok {
				key, isBasic := what.Key().Underlying().(*types.Basic)
				found = found || isBasic && key.Info()&types.IsInteger != 0
			}
		}
		return true
	})
	return found
}

// Ways, 15: what is reached stands in a map by a number.
func TestWhatIsReachedStandsInAMapByANumber(t *testing.T) {
	fset, files, info := typesOf(t)
	all := functionsIn(fset, files, "l15_agree.go")
	for _, from := range []string{"Joined", "Loops"} {
		found := false
		for name, fn := range all {
			found = found || storesByNumber(fn, info) && reaches(all, from, name)
		}
		if !found {
			t.Errorf("%s stores nothing in a map by a number", from)
		}
	}
}

// leavesByLabel counts what a function leaves, or goes on with, by a label.
func leavesByLabel(fn *ast.FuncDecl) int {
	count := 0
	ast.Inspect(fn, func(n ast.Node) bool {
		if leave, ok := n.(*ast.BranchStmt); ok && leave.Label != nil && (leave.Tok == token.BREAK || leave.Tok == token.CONTINUE) {
			count++
		}
		return true
	})
	return count
}

// Ways, 16: the way is left by its label.
func TestTheWayIsLeftByItsLabel(t *testing.T) {
	all := functionsOf(t, "l16_true.go")
	count := 0
	for name, fn := range all {
		if reaches(all, "DistTrue", name) {
			count += leavesByLabel(fn)
		}
	}
	if count == 0 {
		t.Error("DistTrue leaves no way by its label")
	}
}

// hasNumberList tells whether a field of a struct is a list of numbers, as a name is.
func hasNumberList(what *types.Struct) bool {
	for i := range what.NumFields() {
		if list, ok := what.Field(i).Type().Underlying().(*types.Slice); ok && types.Identical(list.Elem(), types.Typ[types.Int]) {
			return true
		}
	}
	return false
}

// callsNamedField tells whether a function calls a function field of a struct that has a name, too.
func callsNamedField(fn *ast.FuncDecl, info *types.Info) bool {
	found := false
	ast.Inspect(fn, func(n ast.Node) bool {
		call, ok := n.(*ast.CallExpr)
		if !ok {
			return true
		}
		if what, ok := call.Fun.(*ast.SelectorExpr); ok {
			if chosen := info.Selections[what]; chosen != nil && chosen.Kind() == types.FieldVal {
				of, isStruct := chosen.Recv().Underlying().(*types.Struct)
				found = found || isStruct && hasNumberList(of)
			}
		}
		return true
	})
	return found
}

// Ways, 17: each thing is a function field with its name.
func TestEachThingIsAFunctionFieldWithItsName(t *testing.T) {
	fset, files, info := typesOf(t)
	all := functionsIn(fset, files, "l17_mib.go")
	for _, from := range []string{"MibList", "MibGet", "MibNext"} {
		found := false
		for name, fn := range all {
			found = found || callsNamedField(fn, info) && reaches(all, from, name)
		}
		if !found {
			t.Errorf("%s calls no function field that stands with a name", from)
		}
	}
}

// isFunctionWithoutArguments tells whether a type is one of functions that are only to be called.
func isFunctionWithoutArguments(what types.Type) bool {
	fn, ok := what.Underlying().(*types.Signature)
	return ok && fn.Params().Len() == 0 && fn.Results().Len() == 0
}

// listsFunctions tells whether a function appends to a list of functions that are only to be called.
func listsFunctions(fn *ast.FuncDecl, info *types.Info) bool {
	found := false
	ast.Inspect(fn, func(n ast.Node) bool {
		if call, ok := n.(*ast.CallExpr); ok && types.ExprString(call.Fun) == "append" {
			list, isList := info.Types[call].Type.Underlying().(*types.Slice)
			found = found || isList && isFunctionWithoutArguments(list.Elem())
		}
		return true
	})
	return found
}

// closesOver tells whether a function makes a closure that is only to be called, and in which something is set.
func closesOver(fn *ast.FuncDecl, info *types.Info) bool {
	found := false
	ast.Inspect(fn, func(n ast.Node) bool {
		literal, ok := n.(*ast.FuncLit)
		if !ok || !isFunctionWithoutArguments(info.Types[literal].Type) {
			return true
		}
		ast.Inspect(literal, func(n ast.Node) bool {
			_, sets := n.(*ast.AssignStmt)
			found = found || sets
			return true
		})
		return true
	})
	return found
}

// Ways, 18: what is undone is a list of closures.
func TestWhatIsUndoneIsAListOfClosures(t *testing.T) {
	fset, files, info := typesOf(t)
	all := functionsIn(fset, files, "l18_set.go")
	listed, made := false, false
	for name, fn := range all {
		if reaches(all, "SetAll", name) {
			listed = listed || listsFunctions(fn, info)
			made = made || closesOver(fn, info)
		}
	}
	if !listed {
		t.Error("SetAll lists no functions that are only to be called")
	}
	if !made {
		t.Error("SetAll makes no closure that sets something back")
	}
}

// fallsThrough tells whether a function has a case of one name that falls through to the one of another.
func fallsThrough(fn *ast.FuncDecl, from string, to string) bool {
	found := false
	ast.Inspect(fn, func(n ast.Node) bool {
		choice, ok := n.(*ast.SwitchStmt)
		if !ok {
			return true
		}
		for at, clause := range choice.Body.List[:max(len(choice.Body.List), 1)-1] {
			ahead, behind := clause.(*ast.CaseClause), choice.Body.List[at+1].(*ast.CaseClause)
			found = found || isCaseOf(ahead, from) && endsInFallthrough(ahead) && isCaseOf(behind, to)
		}
		return true
	})
	return found
}

func isCaseOf(clause *ast.CaseClause, name string) bool {
	return len(clause.List) == 1 && types.ExprString(clause.List[0]) == name
}

func endsInFallthrough(clause *ast.CaseClause) bool {
	if len(clause.Body) == 0 {
		return false
	}
	last, ok := clause.Body[len(clause.Body)-1].(*ast.BranchStmt)
	return ok && last.Tok == token.FALLTHROUGH
}

// Ways, 19: many falls through to next.
func TestManyFallsThroughToNext(t *testing.T) {
	fset, files, _ := typesOf(t)
	all := functionsIn(fset, files, "l19_reply.go")
	found := false
	for name, fn := range all {
		found = found || fallsThrough(fn, "RqBulk", "RqNext") && reaches(all, "ReplyOf", name)
	}
	if !found {
		t.Error("ReplyOf reaches no case of RqBulk that falls through to the one of RqNext")
	}
}

// Package stackmap: small machine programs whose types are checked in one pass, by maps that were made ahead, and that then run without types: see DOC.md.
package stackmap

import (
	"stackmap/api"
	"stackmap/faults"
	"stackmap/flow"
	"stackmap/layout"
	"stackmap/least"
	"stackmap/machine"
	"stackmap/types"
)

// Check tells whether a file is one, and whether each method's types are right, by its maps (P3 to P7, P10, P11).
func Check(file string) (api.Errno, int, int) {
	_, fault := check(file)
	return fault.Err, fault.Which, fault.At
}

// Strip gives the file without its maps (P8).
func Strip(file string) (string, api.Errno) {
	f, fault := read(file)
	if fault.Err != api.OK {
		return "", fault.Err
	}
	bare := f.WithoutMaps()
	return layout.Write(bare), api.OK
}

// Fits tells whether what is of type a may stand where b is wanted (P9).
func Fits(file string, a api.Type, b api.Type) (bool, api.Errno) {
	tree, err := readTree(file, a, b)
	if err != api.OK {
		return false, err
	}
	return tree.Fits(a, b), api.OK
}

// Join gives the least type that both fit (P9).
func Join(file string, a api.Type, b api.Type) (api.Type, api.Errno) {
	tree, err := readTree(file, a, b)
	if err != api.OK {
		return api.Type{}, err
	}
	return tree.Join(a, b), api.OK
}

// Prepare gives the file with its least maps (P12).
func Prepare(file string) (string, api.Errno, int) {
	f, fault := read(file)
	if fault.Err != api.OK {
		return "", fault.Err, fault.Which
	}
	filled, which, found := least.Fill(f)
	if !found {
		return "", api.ErrType, which
	}
	return layout.Write(filled), api.OK, 0
}

// Run runs a file that Check has nothing against (P13 to P15).
func Run(file string, s api.Start) (api.Outcome, api.Errno) {
	f, fault := check(file)
	if fault.Err != api.OK {
		return api.Outcome{}, fault.Err
	}
	err := machine.StartError(f, s)
	if err != api.OK {
		return api.Outcome{}, err
	}
	return machine.Run(f, s), api.OK
}

// check gives a file's parts, or its first error of any kind.
func check(file string) (layout.File, faults.Fault) {
	f, fault := read(file)
	if fault.Err != api.OK {
		return layout.File{}, fault
	}
	fault = flow.Find(f)
	if fault.Err != api.OK {
		return layout.File{}, fault
	}
	return f, faults.Fault{}
}

// read gives a file's parts, or its first error of form.
func read(file string) (layout.File, faults.Fault) {
	f, err := layout.Read(file)
	if err != api.OK {
		return layout.File{}, faults.Fault{Err: err}
	}
	fault := faults.Find(f)
	if fault.Err != api.OK {
		return layout.File{}, fault
	}
	return f, faults.Fault{}
}

// readTree gives the tree of a file whose methods may be wrong: of two types only the classes tell something.
func readTree(file string, a, b api.Type) (types.Tree, api.Errno) {
	f, err := layout.Read(file)
	if err != api.OK {
		return types.Tree{}, err
	}
	fault := faults.InClasses(f)
	if fault.Err != api.OK {
		return types.Tree{}, fault.Err
	}
	tree := types.TreeOf(f)
	if !tree.IsArgument(a) || !tree.IsArgument(b) {
		return types.Tree{}, api.ErrArg
	}
	return tree, api.OK
}

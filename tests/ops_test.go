package tests

import (
	"math"
	"slices"
	"testing"

	"loop.example/g00691/impl"
)

// neededFields: of each kind of op the fields that it needs besides its Kind.
func neededFields() map[int64][]string {
	return map[int64][]string{
		impl.OpMake:  {"Path", "Dir"},
		impl.OpWrite: {"Path", "Index", "Numbers"},
		impl.OpCut:   {"Path", "Index"},
		impl.OpDrop:  {"Path"},
		impl.OpMove:  {"Path", "To"},
		impl.OpRead:  {"Path"},
		impl.OpList:  {"Path"},
		impl.OpSync:  {},
	}
}

// fieldTurns: each sets one field of an op to a right value that is not zero.
func fieldTurns() map[string]func(*impl.Op) {
	return map[string]func(*impl.Op){
		"Path":    func(o *impl.Op) { o.Path = "/a/b" },
		"To":      func(o *impl.Op) { o.To = "/c" },
		"Dir":     func(o *impl.Op) { o.Dir = true },
		"Index":   func(o *impl.Op) { o.Index = 1 },
		"Numbers": func(o *impl.Op) { o.Numbers = []int64{1, 2, 3, 4} },
	}
}

// rightOp has just what its kind needs.
func rightOp(kind int64) impl.Op {
	o := impl.Op{Kind: kind}
	for _, field := range neededFields()[kind] {
		fieldTurns()[field](&o)
	}
	return o
}

func TestOpsWithJustWhatTheyNeed(t *testing.T) {
	for kind := range neededFields() {
		checkOpFault(t, rightOp(kind), 0)
	}
	for _, o := range []impl.Op{
		makeFile("/"), makeDir("/"), makeFile("/a"), makeDir("/a/b/c/d"), writeOp("/", 0, 0, 0, 0, 0), writeOp("/a", 3, 9999, 0, 0, 9999),
		cutOp("/a", 0), cutOp("/", 4), dropOp("/"), moveOp("/", "/"), moveOp("/a", "/a"), readOp("/"), listOp("/"), syncOp(),
		{Kind: impl.OpSync, Numbers: []int64{}}, {Kind: impl.OpDrop, Path: "/a", Numbers: []int64{}},
	} {
		checkOpFault(t, o, 0)
	}
}

func TestOpsWithWhatTheyDoNotNeed(t *testing.T) {
	for kind, needed := range neededFields() {
		for field, turn := range fieldTurns() {
			if slices.Contains(needed, field) {
				continue
			}
			o := rightOp(kind)
			turn(&o)
			checkOpFault(t, o, impl.ErrForm)
			// It is asked ahead of all else.
			for _, wrong := range []impl.Op{{Path: "x"}, {Path: "/a/b/c/d/e"}} {
				other := o
				other.Path = wrong.Path
				checkOpFault(t, other, impl.ErrForm)
			}
		}
	}
	for _, o := range []impl.Op{
		{Kind: impl.OpSync, Path: "/"}, {Kind: impl.OpSync, Path: "x"}, {Kind: impl.OpSync, Index: -1}, {Kind: impl.OpSync, Numbers: []int64{0}},
		{Kind: impl.OpDrop, Path: "/a", To: "/"}, {Kind: impl.OpRead, Path: "/a", To: "x"}, {Kind: impl.OpList, Path: "/a", Numbers: []int64{0}},
		{Kind: impl.OpMake, Path: "/a", Index: math.MinInt64}, {Kind: impl.OpMove, Path: "/a", To: "/b", Index: -1}, {Kind: impl.OpMove, Path: "/a", To: "/b", Dir: true},
		{Kind: impl.OpCut, Path: "/a", Numbers: []int64{1, 2, 3, 4}}, {Kind: impl.OpCut, Path: "/a", Index: 9, Dir: true},
		{Kind: impl.OpWrite, Path: "/a", Index: 9, To: "/b"}, {Kind: impl.OpWrite, Path: "/a", Numbers: []int64{1}, Dir: true},
	} {
		checkOpFault(t, o, impl.ErrForm)
	}
}

func TestKindsThatAreNone(t *testing.T) {
	for _, kind := range []int64{math.MinInt64, -8, -1, 0, 9, 10, 100, math.MaxInt64} {
		checkOpFault(t, impl.Op{Kind: kind}, impl.ErrForm)
		for field, turn := range fieldTurns() {
			o := impl.Op{Kind: kind}
			turn(&o)
			if impl.OpFault(o) != impl.ErrForm || impl.IsMutation(o) {
				t.Errorf("an op of the kind %d with a %s is one", kind, field)
			}
		}
	}
}

func TestPathsOfOpsThatAreNone(t *testing.T) {
	codes := map[string]int64{"": impl.ErrText, "a": impl.ErrText, "/a/": impl.ErrText, "/A": impl.ErrText, "//": impl.ErrText, "/abcdefg": impl.ErrText, "/a/b/c/d/e": impl.ErrMany, "/a/b/c/d/e/f": impl.ErrMany}
	for path, code := range codes {
		for kind := range neededFields() {
			o := rightOp(kind)
			if kind == impl.OpSync {
				continue
			}
			o.Path = path
			checkOpFault(t, o, code)
		}
		checkOpFault(t, moveOp("/a", path), code)
		// The Path's code comes first, whatever To is.
		for to := range codes {
			checkOpFault(t, moveOp(path, to), code)
		}
		for _, index := range []int64{-1, 5} {
			checkOpFault(t, writeOp(path, index, 1, 2, 3, 4), code)
			checkOpFault(t, writeOp(path, index, -1), code)
			checkOpFault(t, cutOp(path, index), code)
		}
		checkOpFault(t, writeOp(path, 0, 1, 2, 3), code)
	}
}

func TestIndexesOfOps(t *testing.T) {
	for _, index := range []int64{math.MinInt64, -2, -1, 0, 1, 2, 3, 4, 5, 6, math.MaxInt64} {
		ofWrite, ofCut := int64(impl.OK), int64(impl.OK)
		if index < 0 || index > 3 {
			ofWrite = impl.ErrRange
		}
		if index < 0 || index > 4 {
			ofCut = impl.ErrRange
		}
		checkOpFault(t, writeOp("/a", index, 1, 2, 3, 4), ofWrite)
		checkOpFault(t, cutOp("/a", index), ofCut)
		// The Index is asked ahead of the Numbers.
		if ofWrite != impl.OK {
			checkOpFault(t, writeOp("/a", index, 1, 2, 3), impl.ErrRange)
			checkOpFault(t, writeOp("/a", index), impl.ErrRange)
		}
	}
}

func TestNumbersOfAWrite(t *testing.T) {
	for many := range 20 {
		code := int64(impl.ErrMany)
		if many == 4 {
			code = impl.OK
		}
		checkOpFault(t, writeOp("/a", 0, make([]int64, many)...), code)
	}
	checkOpFault(t, writeOp("/a", 0, -1, -1, -1), impl.ErrMany)
	for place := range 4 {
		for _, n := range []int64{math.MinInt64, -1, 10000, math.MaxInt64} {
			list := pieceNumbers(1)
			list[place] = n
			checkOpFault(t, writeOp("/a", 3, list...), impl.ErrRange)
		}
	}
}

func TestWhichOpsAreMutations(t *testing.T) {
	for kind := range neededFields() {
		if got := impl.IsMutation(rightOp(kind)); got != (kind <= impl.OpMove) {
			t.Errorf("IsMutation of the kind %d is %v", kind, got)
		}
	}
	for _, o := range []impl.Op{makeDir("a"), writeOp("/a", 4, 1, 2, 3, 4), writeOp("/a", 0, 1), cutOp("/a", -1), dropOp(""), moveOp("/a", "b"), {Kind: impl.OpDrop, Path: "/a", Dir: true}} {
		if impl.IsMutation(o) {
			t.Errorf("an op with a fault is a mutation: %+v", o)
		}
	}
}

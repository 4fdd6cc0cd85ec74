package tests

import (
	"fmt"
	"slices"
	"strings"
	"testing"

	"loop.example/g00691/impl"
)

// What notes tell once more, written as plainly as the chapter: each rule looks through all notes anew, to hold the program's answers against.

func noteFaultByRule(n impl.Note) int64 {
	isZeroOp := sameOpByRule(n.Op, impl.Op{})
	isZeroReply := n.Reply.Code == 0 && len(n.Reply.Numbers) == 0 && len(n.Reply.Names) == 0
	switch n.Kind {
	case 1:
		if !isZeroReply {
			return impl.ErrForm
		}
	case 2:
	case 3, 4:
		if n.Who != 0 || !isZeroOp || !isZeroReply {
			return impl.ErrForm
		}
	default:
		return impl.ErrForm
	}
	if n.Who < 0 || n.Who > 3 || n.Epoch < 0 || n.Epoch > 9999 {
		return impl.ErrRange
	}
	if code := opFaultByRule(n.Op); code != 0 && n.Kind <= 2 {
		return code
	}
	if n.Reply.Code < 0 || n.Reply.Code > 9 {
		return impl.ErrRange
	}
	if len(n.Reply.Numbers) > 16 || len(n.Reply.Names) > 60 {
		return impl.ErrMany
	}
	if slices.ContainsFunc(n.Reply.Numbers, func(number int64) bool { return number < 0 || number > 9999 }) {
		return impl.ErrRange
	}
	for _, name := range n.Reply.Names {
		if len(name) < 1 || len(name) > 6 || strings.Trim(name, "abcdefghijklmnopqrstuvwxyz") != "" {
			return impl.ErrText
		}
	}
	return 0
}

func notesFaultByRule(notes []impl.Note) int64 {
	if len(notes) > 600 {
		return impl.ErrMany
	}
	for _, n := range notes {
		if code := noteFaultByRule(n); code != 0 {
			return code
		}
	}
	return 0
}

func isMutationByRule(n impl.Note) bool {
	return n.Kind == impl.NoteEnd && n.Reply.Code == 0 && n.Op.Kind >= 1 && n.Op.Kind <= 5
}

// erasByRule: each era but the last one has the NoteUp that ends it as its last note.
func erasByRule(notes []impl.Note) [][]impl.Note {
	eras := [][]impl.Note{nil}
	for _, n := range notes {
		last := len(eras) - 1
		eras[last] = append(eras[last], n)
		if n.Kind == impl.NoteUp {
			eras = append(eras, nil)
		}
	}
	return eras
}

// turnedByRule: what the mutations of an era, of no later epoch than this, make of items.
func turnedByRule(items []impl.Item, era []impl.Note, latest int64) []impl.Item {
	for _, n := range era {
		if isMutationByRule(n) && n.Epoch <= latest {
			items = doByRule(items, n.Op).Items
		}
	}
	return items
}

// thereByRule: the last era is turned up to this epoch, each one ahead of it up to that which was sure where it ended.
func thereByRule(notes []impl.Note, latest int64) []impl.Item {
	eras := erasByRule(notes)
	var items []impl.Item
	for _, era := range eras[:len(eras)-1] {
		items = turnedByRule(items, era, era[len(era)-1].Epoch-2)
	}
	return turnedByRule(items, eras[len(eras)-1], latest)
}

func itemsNowByRule(notes []impl.Note) impl.ItemsResult {
	if code := notesFaultByRule(notes); code != 0 {
		return impl.ItemsResult{Code: code}
	}
	return impl.ItemsResult{Items: thereByRule(notes, 9999)}
}

func itemsAfterByRule(notes []impl.Note, clock int64) impl.ItemsResult {
	if code := notesFaultByRule(notes); code != 0 {
		return impl.ItemsResult{Code: code}
	}
	if clock < 2 || clock > 9999 {
		return impl.ItemsResult{Code: impl.ErrRange}
	}
	return impl.ItemsResult{Items: thereByRule(notes, clock-2)}
}

// cameBackByRule: the first end of this thread has the code 0.
func cameBackByRule(behind []impl.Note, who int64) bool {
	at := slices.IndexFunc(behind, func(n impl.Note) bool { return n.Kind == impl.NoteEnd && n.Who == who })
	return at >= 0 && behind[at].Reply.Code == 0
}

func greatestSynced(notes []impl.Note) int64 {
	eras := erasByRule(notes)
	era := eras[len(eras)-1]
	greatest := int64(0)
	for i, mutation := range era {
		for j, sync := range era {
			isAhead := i < j && isMutationByRule(mutation) && sync.Kind == impl.NoteBegin && sync.Op.Kind == impl.OpSync
			if isAhead && cameBackByRule(era[j:], sync.Who) {
				greatest = max(greatest, mutation.Epoch)
			}
		}
	}
	return greatest
}

func syncedByRule(notes []impl.Note) impl.IntResult {
	if code := notesFaultByRule(notes); code != 0 {
		return impl.IntResult{Code: code}
	}
	return impl.IntResult{Value: greatestSynced(notes)}
}

func isUpByRule(notes []impl.Note) bool {
	for _, n := range slices.Backward(notes) {
		if n.Kind == impl.NoteCrash || n.Kind == impl.NoteUp {
			return n.Kind == impl.NoteUp
		}
	}
	return true
}

func isEndByRule(ahead []impl.Note, n impl.Note) bool {
	r := n.Reply
	if n.Op.Kind == impl.OpSync {
		return r.Code == 0 && len(r.Numbers) == 0 && len(r.Names) == 0
	}
	want := doByRule(thereByRule(ahead, 9999), n.Op)
	if n.Op.Kind == impl.OpRead || n.Op.Kind == impl.OpList {
		return r.Code == want.Code && slices.Equal(r.Numbers, want.Numbers) && slices.Equal(r.Names, want.Names)
	}
	if len(r.Numbers) > 0 || len(r.Names) > 0 {
		return false
	}
	if r.Code != 0 {
		return r.Code == want.Code || r.Code == 8 || r.Code == 7 && want.Code == 0
	}
	eras := erasByRule(ahead)
	for _, other := range eras[len(eras)-1] {
		if isMutationByRule(other) && n.Epoch < other.Epoch {
			return false
		}
	}
	return want.Code == 0 && n.Epoch >= 1
}

func isExplainedByRule(notes []impl.Note) bool {
	if notesFaultByRule(notes) != 0 {
		return false
	}
	for i, n := range notes {
		ahead := notes[:i]
		isRight := true
		switch n.Kind {
		case impl.NoteBegin:
			isRight = isUpByRule(ahead)
		case impl.NoteEnd:
			isRight = isUpByRule(ahead) && isEndByRule(ahead, n)
		case impl.NoteUp:
			isRight = !isUpByRule(ahead) && n.Epoch >= 2 && greatestSynced(ahead) <= n.Epoch-2
		}
		if !isRight {
			return false
		}
	}
	return true
}

// toldNotes: notes as a text that is not too long to be read.
func toldNotes(notes []impl.Note) string {
	text := fmt.Sprintf("%+v", notes[:min(len(notes), 100)])
	return text[:min(len(text), 3000)]
}

func checkNotesFault(t *testing.T, what string, notes []impl.Note, want int64) {
	t.Helper()
	if got := impl.NotesFault(notes); got != want {
		t.Fatalf("%s: NotesFault of %s = %d, want %d", what, toldNotes(notes), got, want)
	}
}

func checkSynced(t *testing.T, what string, notes []impl.Note, want impl.IntResult) {
	t.Helper()
	if got := impl.SyncedIn(notes); got != want {
		t.Fatalf("%s: SyncedIn of %s = %+v, want %+v", what, toldNotes(notes), got, want)
	}
}

func checkIsExplained(t *testing.T, what string, notes []impl.Note, want bool) {
	t.Helper()
	if got := impl.IsExplained(notes); got != want {
		t.Fatalf("%s: IsExplained of %s = %v", what, toldNotes(notes), got)
	}
}

// checkAudit holds all that notes tell against the rule, and answers whether they are explained.
func checkAudit(t *testing.T, what string, notes []impl.Note, clocks ...int64) bool {
	t.Helper()
	checkNotesFault(t, what, notes, notesFaultByRule(notes))
	checkItemsResult(t, what+": ItemsNow", impl.ItemsNow(notes), itemsNowByRule(notes))
	for _, clock := range clocks {
		checkItemsResult(t, what+": ItemsAfter", impl.ItemsAfter(notes, clock), itemsAfterByRule(notes, clock))
	}
	checkSynced(t, what, notes, syncedByRule(notes))
	want := isExplainedByRule(notes)
	checkIsExplained(t, what, notes, want)
	return want
}

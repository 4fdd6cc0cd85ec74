package tests

import (
	"math"
	"math/rand"
	"reflect"
	"slices"
	"strings"
	"testing"

	"loop.example/g00691/impl"
)

// askedNotes: right ones, such as worlds make and such as none makes, and such as have a fault.
func askedNotes() [][]impl.Note {
	r := rand.New(rand.NewSource(77))
	all := [][]impl.Note{nil, {}, rightNotes(), oddNotes(), someDone(), slices.Concat(someDone(), syncOf(1), again(5), doneIn(5, makeFile("/b"))), make([]impl.Note, 601), make([]impl.Note, 100000), slices.Repeat(notesOf(crashNote()), 600)}
	for _, faulty := range faultyNotes() {
		all = append(all, slices.Concat(someDone(), notesOf(faulty.note)))
	}
	for range 30 {
		asked := auditWorld(r, r.Intn(120))
		notes := impl.DrainWorld(asked.config, asked.events).State.Notes
		all = append(all, notes, spoiltNotes(r, notes), anyNotes(r, r.Intn(30)))
	}
	for _, n := range []int64{math.MinInt64, math.MinInt64 + 1, -1, 0, 1, 4, 9, 10, 9999, 10000, math.MaxInt64 - 1, math.MaxInt64} {
		far := impl.Note{Kind: n, Who: n, Epoch: n, Op: writeOp("/a", n, n, n, n, n), Reply: impl.Reply{Code: n, Numbers: []int64{n}, Names: []string{"a"}}}
		all = append(all, notesOf(far), slices.Concat(someDone(), notesOf(impl.Note{Kind: n})), slices.Concat(someDone(), again(n)))
		all = append(all, slices.Concat(someDone(), notesOf(endNote(n, syncOp(), 0))), slices.Concat(someDone(), notesOf(endNote(0, makeFile("/b"), n))), slices.Concat(someDone(), notesOf(codeNote(readOp("/a"), n))))
		all = append(all, notesOf(repliedNote(readOp("/a"), impl.Reply{Numbers: []int64{n}})))
	}
	return all
}

// farNotes have texts and lists that are far out of all bounds.
func farNotes() [][]impl.Note {
	var all [][]impl.Note
	for _, o := range farOps() {
		all = append(all, slices.Concat(someDone(), doneIn(4, o), again(6)))
	}
	for _, text := range texts() {
		all = append(all, notesOf(repliedNote(listOp("/"), impl.Reply{Names: []string{"a", text}})))
	}
	return all
}

// askedClocks: right ones, and such as are none.
func askedClocks() []int64 {
	return []int64{math.MinInt64, math.MinInt64 + 1, math.MinInt64 + 2, -1, 0, 1, 2, 3, 4, 5, 6, 9998, 9999, 10000, math.MaxInt64 - 1, math.MaxInt64}
}

func TestAnyArgumentOfAnAuditIsAnsweredAsTheDocumentTells(t *testing.T) {
	for _, notes := range askedNotes() {
		checkAudit(t, "any argument", notes, askedClocks()...)
	}
	for _, notes := range farNotes() {
		checkAudit(t, "far out of all bounds", notes, 4)
	}
}

type auditAnswers struct {
	fault     int64
	now       impl.ItemsResult
	after     []impl.ItemsResult
	synced    impl.IntResult
	explained bool
}

func answersOfAudit(notes []impl.Note, clocks ...int64) auditAnswers {
	answers := auditAnswers{fault: impl.NotesFault(notes), now: impl.ItemsNow(notes), synced: impl.SyncedIn(notes), explained: impl.IsExplained(notes)}
	for _, clock := range clocks {
		answers.after = append(answers.after, impl.ItemsAfter(notes, clock))
	}
	return answers
}

func (a auditAnswers) items() [][]impl.Item {
	lists := [][]impl.Item{a.now.Items}
	for _, after := range a.after {
		lists = append(lists, after.Items)
	}
	return lists
}

func (a auditAnswers) spans() []reach {
	var spans []reach
	for _, items := range a.items() {
		spans = append(spans, itemSpans(items)...)
	}
	return spans
}

// roomyNotes: each list with free places behind it, where a careless append would write.
func roomyNotes(notes []impl.Note) []impl.Note {
	notes = slices.Clone(notes)
	for i, n := range notes {
		notes[i].Op.Numbers = roomy(n.Op.Numbers, -5)[:len(n.Op.Numbers)]
		notes[i].Reply.Numbers = roomy(n.Reply.Numbers, -5)[:len(n.Reply.Numbers)]
		notes[i].Reply.Names = roomy(n.Reply.Names, "free")[:len(n.Reply.Names)]
	}
	return roomy(notes, impl.Note{Kind: -5})[:len(notes)]
}

// wholeNotes: all of them that is in memory, with what is free behind each list.
func wholeNotes(notes []impl.Note) []impl.Note {
	whole := slices.Clone(notes[:cap(notes)])
	for i, n := range whole {
		whole[i].Op.Numbers = slices.Clone(n.Op.Numbers[:cap(n.Op.Numbers)])
		whole[i].Reply.Numbers = slices.Clone(n.Reply.Numbers[:cap(n.Reply.Numbers)])
		whole[i].Reply.Names = slices.Clone(n.Reply.Names[:cap(n.Reply.Names)])
	}
	return whole
}

func TestNoArgumentOfAnAuditIsChanged(t *testing.T) {
	for _, notes := range slices.Concat(askedNotes(), farNotes()) {
		given := roomyNotes(notes)
		before := wholeNotes(given)
		answersOfAudit(given, 1, 4, 9999)
		if !reflect.DeepEqual(wholeNotes(given), before) {
			t.Fatalf("notes were changed: %s", toldNotes(notes))
		}
	}
}

func TestEachAnswerOfAnAuditIsNewMemory(t *testing.T) {
	for _, notes := range askedNotes() {
		first, second := answersOfAudit(notes, 2, 4, 5, 9999), answersOfAudit(notes, 4, 9999)
		answers := slices.Concat(first.spans(), second.spans())
		// All lists of two rounds at once: none of them is one of another answer.
		checkSpansApart(t, "the answers of an audit", answers)
		given := noteSpans(notes[:min(len(notes), 600)])
		for _, a := range answers {
			if slices.ContainsFunc(given, func(b reach) bool { return overlap(a, b) }) {
				t.Fatalf("an answer shares memory with an argument: %s", toldNotes(notes))
			}
		}
	}
}

func TestListsThatNotesShareAreApartInTheItems(t *testing.T) {
	one := []int64{1, 2, 3, 4}
	write := func(path string, index int64) impl.Op {
		return impl.Op{Kind: impl.OpWrite, Path: path, Index: index, Numbers: one}
	}
	notes := doneIn(2, makeFile("/a"), makeFile("/b"), write("/a", 0), write("/b", 0), write("/b", 1))
	want := []impl.Item{{Path: "/a", Data: []int64{1, 2, 3, 4}}, {Path: "/b", Data: []int64{1, 2, 3, 4, 1, 2, 3, 4}}}
	for _, got := range []impl.ItemsResult{impl.ItemsNow(notes), impl.ItemsAfter(notes, 4), impl.ItemsNow(append(notes, upNote(4)))} {
		checkItemsResult(t, "shared lists", got, impl.ItemsResult{Items: want})
		checkSpansApart(t, "shared lists", append(itemSpans(got.Items), span(one)))
		scribbleItems(got.Items)
	}
	if !slices.Equal(one, []int64{1, 2, 3, 4}) {
		t.Errorf("what is written into an answer is seen in the argument: %v", one)
	}
}

func TestNoTextOfAnAuditIsAPieceOfAnArgumentOrOfAnotherOne(t *testing.T) {
	for _, asked := range askedNotes() {
		if len(asked) > 600 {
			continue
		}
		notes := slices.Clone(asked)
		for i := range notes {
			notes[i].Op.Path, notes[i].Op.To = strings.Clone(notes[i].Op.Path), strings.Clone(notes[i].Op.To)
		}
		for _, items := range answersOfAudit(notes, 4, 9999).items() {
			for i, item := range items {
				for _, n := range notes {
					if isInside(item.Path, n.Op.Path) || isInside(item.Path, n.Op.To) {
						t.Fatalf("the path %q is a piece of an argument", item.Path)
					}
				}
				for _, other := range items[:i] {
					if isInside(item.Path, other.Path) {
						t.Fatalf("the path %q is a piece of another one of the answer", item.Path)
					}
				}
			}
		}
	}
}

func TestAnAnswerOfAnAuditThatIsWrittenOverIsNotSeenInTheNextOne(t *testing.T) {
	for _, notes := range askedNotes() {
		for _, items := range answersOfAudit(notes, 4, 9999).items() {
			scribbleItems(items)
		}
		checkAudit(t, "asked again", notes, 4, 9999)
	}
}

func TestAnswersOfAnAuditHangOnTheArgumentsAlone(t *testing.T) {
	for _, notes := range askedNotes() {
		first := answersOfAudit(notes, 1, 4, 9999)
		// What is free behind the lists is no part of the arguments.
		for _, again := range [][]impl.Note{notes, roomyNotes(notes), copyOfNotes(notes)} {
			if !reflect.DeepEqual(first, answersOfAudit(again, 1, 4, 9999)) {
				t.Fatalf("two calls with the same arguments answer differently: %s", toldNotes(notes))
			}
		}
	}
}

func TestBesideACodeOfAnAuditAllElseIsZero(t *testing.T) {
	seen := map[int64]int{}
	for _, notes := range askedNotes() {
		answers := answersOfAudit(notes, askedClocks()...)
		for _, got := range append(answers.after, answers.now) {
			if got.Code != 0 && got.Items != nil {
				t.Fatalf("beside a code there is %+v", got)
			}
			seen[got.Code]++
		}
		if answers.synced.Code != 0 && answers.synced.Value != 0 {
			t.Fatalf("beside a code there is %+v", answers.synced)
		}
		if answers.fault != answers.synced.Code || answers.fault != answers.now.Code || answers.fault != 0 && answers.explained {
			t.Fatalf("the codes are not one: %+v", answers)
		}
	}
	checkSeen(t, seen, impl.OK, impl.ErrForm, impl.ErrMany, impl.ErrRange, impl.ErrText)
}

func TestNilAndEmptyListsOfNotesAreTheSame(t *testing.T) {
	for _, notes := range askedNotes() {
		empty := copyOfNotes(notes)
		for i, n := range empty {
			empty[i].Op.Numbers = append([]int64{}, n.Op.Numbers...)
			empty[i].Reply.Numbers = append([]int64{}, n.Reply.Numbers...)
			empty[i].Reply.Names = append([]string{}, n.Reply.Names...)
		}
		if !reflect.DeepEqual(answersOfAudit(notes, 2, 4, 9999), answersOfAudit(empty, 2, 4, 9999)) {
			t.Fatalf("empty lists are answered otherwise: %s", toldNotes(notes))
		}
	}
}

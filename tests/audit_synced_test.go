package tests

import (
	"slices"
	"testing"

	"loop.example/g00691/impl"
)

// checkSyncedIs: the parts, one behind the other, tell this epoch.
func checkSyncedIs(t *testing.T, what string, want int64, parts ...[]impl.Note) {
	t.Helper()
	notes := slices.Concat(parts...)
	checkSynced(t, what, notes, impl.IntResult{Value: want})
	checkAudit(t, what, notes)
}

// madeBy: a file that nothing else is called, done by the thread in this epoch.
func madeBy(who int64, epoch int64, path string) []impl.Note {
	return notesOf(beginNote(who, makeFile(path)), endNote(who, makeFile(path), epoch))
}

func TestNoSyncThatCameBack(t *testing.T) {
	file := madeBy(0, 5, "/a")
	checkSyncedIs(t, "no sync", 0, file)
	checkSyncedIs(t, "a sync of nothing", 0, syncOf(0))
	checkSyncedIs(t, "no end", 0, file, notesOf(beginNote(0, syncOp())))
	checkSyncedIs(t, "an end alone", 0, file, notesOf(endNote(0, syncOp(), 0)))
	for code := int64(1); code <= 9; code++ {
		checkSyncedIs(t, "an end with a code", 0, file, notesOf(beginNote(0, syncOp()), codeNote(syncOp(), code)))
		// The next end alone is its end, whatever comes later.
		checkSyncedIs(t, "an end with a code, then one without", 0, file, notesOf(beginNote(0, syncOp()), codeNote(syncOp(), code), endNote(0, syncOp(), 0)))
	}
	for _, o := range []impl.Op{readOp("/a"), listOp("/"), makeFile("/b"), dropOp("/b")} {
		checkSyncedIs(t, "no sync, but another op", 0, file, notesOf(beginNote(0, o), endNote(0, o, 0)))
	}
}

func TestWhereAMutationStands(t *testing.T) {
	begin, end := notesOf(beginNote(1, syncOp())), notesOf(endNote(1, syncOp(), 0))
	for _, epoch := range []int64{0, 1, 2, 7, 9999} {
		file := madeBy(0, epoch, "/a")
		checkSyncedIs(t, "ahead of its beginning", epoch, file, begin, end)
		checkSyncedIs(t, "between", 0, begin, file, end)
		checkSyncedIs(t, "behind", 0, begin, end, file)
		checkSyncedIs(t, "behind, and ahead of another one", epoch, begin, end, file, begin, end)
		// Its beginning may stand behind that of the sync, or ahead of it: its end counts.
		checkSyncedIs(t, "begun ahead", 0, file[:1], begin, file[1:], end)
		checkSyncedIs(t, "ended ahead", epoch, file[1:], begin, end)
	}
	for _, o := range []impl.Op{syncOp(), readOp("/a"), listOp("/")} {
		checkSyncedIs(t, "what only asks", 0, notesOf(endNote(0, o, 9)), begin, end)
	}
	refused := codeNote(makeFile("/a"), impl.ErrTaken)
	refused.Epoch = 9
	checkSyncedIs(t, "a mutation with a code", 0, notesOf(refused), begin, end)
	for _, o := range []impl.Op{makeFile("/a"), makeDir("/a"), writeOp("/a", 0, 1, 2, 3, 4), cutOp("/a", 0), dropOp("/a"), moveOp("/a", "/b")} {
		checkSyncedIs(t, "each kind of mutation", 4, doneIn(4, o), begin, end)
	}
}

func TestTheGreatestEpochOfSeveral(t *testing.T) {
	checkSyncedIs(t, "epochs that rise", 5, madeBy(0, 3, "/a"), madeBy(0, 4, "/b"), madeBy(1, 5, "/c"), syncOf(0))
	checkSyncedIs(t, "epochs that fall", 5, madeBy(0, 5, "/a"), madeBy(0, 4, "/b"), madeBy(1, 3, "/c"), syncOf(0))
	checkSyncedIs(t, "two syncs", 4, madeBy(0, 3, "/a"), syncOf(0), madeBy(0, 4, "/b"), syncOf(0), madeBy(0, 5, "/c"))
	checkSyncedIs(t, "the later one does not come back", 3, madeBy(0, 3, "/a"), syncOf(0), madeBy(0, 4, "/b"), notesOf(beginNote(0, syncOp())))
	checkSyncedIs(t, "the later one has a code", 3, madeBy(0, 3, "/a"), syncOf(0), madeBy(0, 4, "/b"), notesOf(beginNote(0, syncOp()), codeNote(syncOp(), 8)))
	checkSyncedIs(t, "the first one has a code", 4, madeBy(0, 3, "/a"), notesOf(beginNote(0, syncOp()), codeNote(syncOp(), 8)), madeBy(0, 4, "/b"), syncOf(0))
}

func TestSyncsOfSeveralThreads(t *testing.T) {
	first, second, third := madeBy(0, 3, "/a"), madeBy(0, 4, "/b"), madeBy(0, 5, "/c")
	one, two := notesOf(beginNote(1, syncOp())), notesOf(beginNote(2, syncOp()))
	oneBack, twoBack := notesOf(endNote(1, syncOp(), 0)), notesOf(endNote(2, syncOp(), 0))
	checkSyncedIs(t, "ends of others lie between", 3, first, one, second, third, oneBack)
	checkSyncedIs(t, "both come back", 4, first, one, second, two, third, oneBack, twoBack)
	checkSyncedIs(t, "the later one comes back first", 4, first, one, second, two, third, twoBack, oneBack)
	checkSyncedIs(t, "the first one alone comes back", 3, first, one, second, two, third, oneBack)
	checkSyncedIs(t, "the later one alone comes back", 4, first, one, second, two, third, twoBack)
	checkSyncedIs(t, "an end of a thread that did not begin", 0, first, one, twoBack)
	for who := range int64(4) {
		checkSyncedIs(t, "each thread", 3, first, syncOf(who), second)
		for other := range int64(4) {
			want := int64(0)
			if who == other {
				want = 3
			}
			checkSyncedIs(t, "another thread", want, first, notesOf(beginNote(who, syncOp()), endNote(other, syncOp(), 0)))
		}
	}
	bad := codeNote(syncOp(), 8)
	bad.Who = 2
	checkSyncedIs(t, "a code of another thread", 3, first, one, second, two, notesOf(bad), oneBack)
}

func TestTheNextEndOfAThreadIsThatOfItsSync(t *testing.T) {
	file := madeBy(1, 3, "/a")
	// The words ask for the next end of the thread alone, whatever op it tells.
	for _, o := range []impl.Op{readOp("/a"), listOp("/"), makeFile("/b"), dropOp("/a")} {
		checkSyncedIs(t, "an end of another op", 3, file, notesOf(beginNote(0, syncOp()), endNote(0, o, 6)))
		checkSyncedIs(t, "an end of another op with a code", 0, file, notesOf(beginNote(0, syncOp()), codeNote(o, 4), endNote(0, syncOp(), 0)))
		checkSyncedIs(t, "a beginning of another op between", 3, file, notesOf(beginNote(0, syncOp()), beginNote(0, o), endNote(0, o, 6)))
	}
	checkSyncedIs(t, "two begin, and one end", 4, file, notesOf(beginNote(0, syncOp())), madeBy(1, 4, "/b"), notesOf(beginNote(0, syncOp()), endNote(0, syncOp(), 0)))
	checkSyncedIs(t, "two begin, and their end has a code", 0, file, notesOf(beginNote(0, syncOp())), madeBy(1, 4, "/b"), notesOf(beginNote(0, syncOp()), codeNote(syncOp(), 1)))
	checkSyncedIs(t, "a mutation that is the end", 4, doneIn(4, makeFile("/b")), notesOf(beginNote(0, syncOp()), endNote(0, makeFile("/c"), 5)))
}

func TestErasOfSyncs(t *testing.T) {
	file, back := madeBy(0, 5, "/a"), syncOf(0)
	checkSyncedIs(t, "an earlier era", 0, file, back, again(7))
	checkSyncedIs(t, "a mutation of an earlier era", 0, file, again(7), back)
	checkSyncedIs(t, "an era that ended first", 0, file, back[:1], again(7), back[1:])
	checkSyncedIs(t, "a lesser one in the last era", 1, file, back, again(7), madeBy(0, 1, "/b"), back)
	checkSyncedIs(t, "no sync in the last era", 0, file, back, again(7), madeBy(0, 9, "/b"))
	checkSyncedIs(t, "two ups", 0, file, back, again(7), notesOf(upNote(2)))
	checkSyncedIs(t, "a mutation, and then an up alone", 0, file, notesOf(upNote(7)), back)
	// A sync of an era that ended does not come back in the next one, whatever was made in that.
	checkSyncedIs(t, "begun in an earlier era", 0, file, back[:1], again(7), madeBy(1, 8, "/b"), back[1:])
}

func TestCrashesAndSyncs(t *testing.T) {
	file, back := madeBy(0, 5, "/a"), syncOf(0)
	// A crash does not end an era: what it cut off has no end, and so did not come back.
	checkSyncedIs(t, "cut off", 0, file, back[:1], notesOf(crashNote()))
	checkSyncedIs(t, "came back ahead of it", 5, file, back, notesOf(crashNote()))
	checkSyncedIs(t, "came back ahead of two", 5, file, back, notesOf(crashNote(), crashNote()))
	checkSyncedIs(t, "an end behind it, which no world makes", 5, file, back[:1], notesOf(crashNote()), back[1:])
	checkSyncedIs(t, "all behind it, which no world makes", 5, file, notesOf(crashNote()), back)
}

func TestTheSyncedEpochOfAWorld(t *testing.T) {
	c := impl.Config{Lines: 12, Threads: 3, Clock: 2}
	events := throughRound(c, doing(0, makeFile("/a")))
	// Now is 3: /b is of the epoch 3, and one thread waits for both, another one that begins later for /c, too.
	events = slices.Concat(events, doing(0, makeFile("/b")), []impl.Event{beginEvent(1, syncOp())}, doing(0, makeFile("/c")), []impl.Event{beginEvent(2, syncOp())})
	s := ran(t, c, events)
	checkSyncedIs(t, "nobody has come back", 0, s.Notes)
	all := impl.DrainWorld(c, events).State
	checkSyncedIs(t, "all have come back", 3, all.Notes)
	for many := range len(events) {
		checkSyncedIs(t, "not yet", 0, ran(t, c, events[:many]).Notes)
	}
}

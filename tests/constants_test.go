package tests

import (
	"testing"

	"loop.example/g00691/impl"
)

func TestConstantsOfTheFirstChapter(t *testing.T) {
	codes := []int64{impl.OK, impl.ErrForm, impl.ErrMany, impl.ErrRange, impl.ErrNone, impl.ErrText, impl.ErrTaken, impl.ErrFull, impl.ErrState}
	for number, code := range codes {
		if code != int64(number) {
			t.Errorf("the code number %d is %d", number, code)
		}
	}
	kinds := []int64{impl.KindFree, impl.KindNode, impl.KindData, impl.KindGone}
	for number, kind := range kinds {
		if kind != int64(number) {
			t.Errorf("the kind number %d is %d", number, kind)
		}
	}
	bounds := [4]int64{impl.MaxUid, impl.MaxIndex, impl.MaxEpoch, impl.MaxDepth}
	if bounds != [4]int64{999, 3, 9999, 4} {
		t.Errorf("the bounds are %d", bounds)
	}
}

func TestConstantsOfTheDevice(t *testing.T) {
	kinds := [3]int64{impl.ActStore, impl.ActFlush, impl.ActFence}
	if kinds != [3]int64{1, 2, 3} {
		t.Errorf("the kinds of acts are %d", kinds)
	}
	bounds := [3]int64{impl.LineWords, impl.MaxLines, impl.MaxActs}
	if bounds != [3]int64{8, 41, 500} {
		t.Errorf("the bounds are %d", bounds)
	}
}

func TestConstantsOfBlocks(t *testing.T) {
	bounds := [3]int64{impl.FileWords, impl.MaxSize, impl.MaxNumber}
	if bounds != [3]int64{4, 4, 9999} {
		t.Errorf("the bounds are %d", bounds)
	}
}

func TestConstantsOfTheModel(t *testing.T) {
	kinds := [8]int64{impl.OpMake, impl.OpWrite, impl.OpCut, impl.OpDrop, impl.OpMove, impl.OpRead, impl.OpList, impl.OpSync}
	if kinds != [8]int64{1, 2, 3, 4, 5, 6, 7, 8} {
		t.Errorf("the kinds of ops are %d", kinds)
	}
	if impl.MaxItems != 60 {
		t.Errorf("there may be %d items", impl.MaxItems)
	}
}

func TestConstantsOfChanges(t *testing.T) {
	kinds := [4]int64{impl.ChangeNode, impl.ChangeData, impl.ChangeGone, impl.ChangeLoose}
	if kinds != [4]int64{1, 2, 3, 4} {
		t.Errorf("the kinds of changes are %d", kinds)
	}
}

func TestConstantsOfTheWorld(t *testing.T) {
	events := [6]int64{impl.EvBegin, impl.EvPick, impl.EvDaemon, impl.EvEvict, impl.EvCrash, impl.EvMount}
	if events != [6]int64{1, 2, 3, 4, 5, 6} {
		t.Errorf("the kinds of events are %d", events)
	}
	notes := [4]int64{impl.NoteBegin, impl.NoteEnd, impl.NoteCrash, impl.NoteUp}
	if notes != [4]int64{1, 2, 3, 4} {
		t.Errorf("the kinds of notes are %d", notes)
	}
	bounds := [3]int64{impl.MaxThreads, impl.RingRoom, impl.MaxEvents}
	if bounds != [3]int64{4, 6, 200} {
		t.Errorf("the bounds are %d", bounds)
	}
}

func TestConstantsOfDraining(t *testing.T) {
	bounds := [2]int64{impl.MaxRounds, impl.SettleRests}
	if bounds != [2]int64{1000, 5} {
		t.Errorf("the bounds are %d", bounds)
	}
}

func TestConstantsOfTheAudit(t *testing.T) {
	if impl.MaxNotes != 600 {
		t.Errorf("there may be %d notes", impl.MaxNotes)
	}
}

func TestConstantsOfScripts(t *testing.T) {
	bounds := [2]int64{impl.MaxScript, impl.MaxLineCount}
	if bounds != [2]int64{3000, 40} {
		t.Errorf("the bounds are %d", bounds)
	}
}

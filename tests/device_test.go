package tests

import (
	"math/rand"
	"slices"
	"testing"

	"loop.example/g00691/impl"
)

func newDevice(t *testing.T, lines int64) impl.Device {
	t.Helper()
	answer := impl.NewDevice(lines)
	if answer.Code != impl.OK {
		t.Fatalf("NewDevice(%d) = %+v", lines, answer)
	}
	return answer.Device
}

// right: what was answered, where no code is awaited.
func right(t *testing.T, answer impl.DeviceResult) impl.Device {
	t.Helper()
	if answer.Code != impl.OK {
		t.Fatalf("the code is %d", answer.Code)
	}
	if fault := impl.DeviceFault(answer.Device); fault != impl.OK {
		t.Fatalf("what was answered has the fault %d: %+v", fault, answer.Device)
	}
	return answer.Device
}

func checkLists(t *testing.T, d impl.Device, flights []impl.Cell, over []impl.Cell) {
	t.Helper()
	if !slices.Equal(d.Flights, flights) || !slices.Equal(d.Over, over) {
		t.Errorf("the cells are %v and %v, want %v and %v", d.Flights, d.Over, flights, over)
	}
}

// checkKept: the words are 0, but those that are told.
func checkKept(t *testing.T, d impl.Device, kept ...impl.Cell) {
	t.Helper()
	words := make([]int64, len(d.Words))
	for _, c := range kept {
		words[c.At] = c.Value
	}
	if !slices.Equal(d.Words, words) {
		t.Errorf("the words are %v, want %v", d.Words, words)
	}
}

func checkLoads(t *testing.T, d impl.Device, at int64, want int64) {
	t.Helper()
	if got := impl.LoadWord(d, at); got != (impl.IntResult{Value: want}) {
		t.Errorf("LoadWord %d = %+v, want %d", at, got, want)
	}
}

func loadsOf(t *testing.T, d impl.Device) []int64 {
	t.Helper()
	loads := make([]int64, len(d.Words))
	for at := range loads {
		answer := impl.LoadWord(d, int64(at))
		if answer.Code != impl.OK {
			t.Fatalf("LoadWord %d = %+v", at, answer)
		}
		loads[at] = answer.Value
	}
	return loads
}

func TestNewDevices(t *testing.T) {
	for lines := int64(2); lines <= impl.MaxLines; lines++ {
		d := newDevice(t, lines)
		if int64(len(d.Words)) != lines*impl.LineWords || impl.DeviceFault(d) != impl.OK {
			t.Errorf("NewDevice(%d) has %d words and the fault %d", lines, len(d.Words), impl.DeviceFault(d))
		}
		checkKept(t, d)
		checkLists(t, d, nil, nil)
	}
}

func TestOfAWordOfWhichNothingIsStoredTheKeptOneIsLoaded(t *testing.T) {
	d := newDevice(t, 2)
	for at := range d.Words {
		d.Words[at] = int64(100 + at)
	}
	for at := range d.Words {
		checkLoads(t, d, int64(at), int64(100+at))
	}
}

func TestWhatWasStoredIsLoadedAndNotKeptAndNoOtherWordTurns(t *testing.T) {
	r := rand.New(rand.NewSource(5))
	for range 100 {
		d := anyDevice(r)
		before := loadsOf(t, d)
		for at := range before {
			value := r.Int63n(noWord)
			stored := right(t, impl.StoreWord(d, int64(at), value))
			want := slices.Clone(before)
			want[at] = value
			if !slices.Equal(loadsOf(t, stored), want) {
				t.Fatalf("behind a store of %d at %d of %+v there is loaded %v, want %v", value, at, d, loadsOf(t, stored), want)
			}
			if !slices.Equal(stored.Words, d.Words) || !slices.Equal(stored.Flights, d.Flights) {
				t.Fatalf("a store at %d turned what is kept or flushed", at)
			}
		}
	}
}

func TestStoresStandInTheirOrderAndTheSameWordStaysInItsPlace(t *testing.T) {
	d := newDevice(t, 2)
	d = right(t, impl.StoreWord(d, 9, 1))
	d = right(t, impl.StoreWord(d, 3, 2))
	d = right(t, impl.StoreWord(d, 15, 3))
	checkLists(t, d, nil, []impl.Cell{{At: 9, Value: 1}, {At: 3, Value: 2}, {At: 15, Value: 3}})
	d = right(t, impl.StoreWord(d, 9, 4))
	checkLists(t, d, nil, []impl.Cell{{At: 9, Value: 4}, {At: 3, Value: 2}, {At: 15, Value: 3}})
	d = right(t, impl.StoreWord(d, 3, 0))
	checkLists(t, d, nil, []impl.Cell{{At: 9, Value: 4}, {At: 3, Value: 0}, {At: 15, Value: 3}})
	checkLoads(t, d, 3, 0)
	checkKept(t, d)
}

func TestAStoreOfTheWordThatIsKeptIsACell(t *testing.T) {
	d := newDevice(t, 2)
	d.Words[4] = 7
	d = right(t, impl.StoreWord(d, 4, 7))
	checkLists(t, d, nil, []impl.Cell{{At: 4, Value: 7}})
}

func TestTheLeastAndTheGreatestWordAreStored(t *testing.T) {
	for _, value := range []int64{0, noWord - 1} {
		for _, at := range []int64{0, impl.MaxLines*impl.LineWords - 1} {
			d := right(t, impl.StoreWord(newDevice(t, impl.MaxLines), at, value))
			checkLoads(t, d, at, value)
			d = right(t, impl.FlushLine(d, at/impl.LineWords))
			checkLists(t, d, []impl.Cell{{At: at, Value: value}}, nil)
			checkKept(t, right(t, impl.FenceDevice(d)), impl.Cell{At: at, Value: value})
		}
	}
}

func TestWhatWasFlushedAndFencedIsKeptAndNotEarlier(t *testing.T) {
	d := right(t, impl.StoreWord(newDevice(t, 2), 3, 7))
	checkKept(t, d)
	fenced := right(t, impl.FenceDevice(d))
	checkKept(t, fenced)
	checkLists(t, fenced, nil, []impl.Cell{{At: 3, Value: 7}})
	d = right(t, impl.FlushLine(d, 0))
	checkKept(t, d)
	checkLists(t, d, []impl.Cell{{At: 3, Value: 7}}, nil)
	checkLoads(t, d, 3, 7)
	d = right(t, impl.FenceDevice(d))
	checkKept(t, d, impl.Cell{At: 3, Value: 7})
	checkLists(t, d, nil, nil)
	checkLoads(t, d, 3, 7)
}

func TestAFlushGoesLineByLine(t *testing.T) {
	d := newDevice(t, 3)
	for i, at := range []int64{16, 7, 15, 8, 0, 23} {
		d = right(t, impl.StoreWord(d, at, int64(i+1)))
	}
	d = right(t, impl.FlushLine(d, 1))
	checkLists(t, d, []impl.Cell{{At: 15, Value: 3}, {At: 8, Value: 4}}, []impl.Cell{{At: 16, Value: 1}, {At: 7, Value: 2}, {At: 0, Value: 5}, {At: 23, Value: 6}})
	d = right(t, impl.FlushLine(d, 0))
	checkLists(t, d, []impl.Cell{{At: 15, Value: 3}, {At: 8, Value: 4}, {At: 7, Value: 2}, {At: 0, Value: 5}}, []impl.Cell{{At: 16, Value: 1}, {At: 23, Value: 6}})
	again := right(t, impl.FlushLine(d, 0))
	if !sameLists(again, d) {
		t.Errorf("a flush of a line without cells turned %+v to %+v", d, again)
	}
	d = right(t, impl.FlushLine(d, 2))
	checkLists(t, d, []impl.Cell{{At: 15, Value: 3}, {At: 8, Value: 4}, {At: 7, Value: 2}, {At: 0, Value: 5}, {At: 16, Value: 1}, {At: 23, Value: 6}}, nil)
	checkKept(t, d)
}

func TestAFlushReplacesTheCellOfFlightsInItsPlace(t *testing.T) {
	d := newDevice(t, 2)
	d.Flights = []impl.Cell{{At: 1, Value: 11}, {At: 9, Value: 12}, {At: 2, Value: 13}}
	d.Over = []impl.Cell{{At: 3, Value: 24}, {At: 2, Value: 23}, {At: 9, Value: 22}, {At: 1, Value: 21}}
	d = right(t, impl.FlushLine(d, 0))
	checkLists(t, d, []impl.Cell{{At: 1, Value: 21}, {At: 9, Value: 12}, {At: 2, Value: 23}, {At: 3, Value: 24}}, []impl.Cell{{At: 9, Value: 22}})
	d = right(t, impl.FenceDevice(d))
	checkLists(t, d, nil, []impl.Cell{{At: 9, Value: 22}})
	checkKept(t, d, impl.Cell{At: 1, Value: 21}, impl.Cell{At: 9, Value: 12}, impl.Cell{At: 2, Value: 23}, impl.Cell{At: 3, Value: 24})
}

func TestAFlushAndAFenceTurnNothingThatIsLoaded(t *testing.T) {
	r := rand.New(rand.NewSource(6))
	for range 100 {
		d := anyDevice(r)
		before := loadsOf(t, d)
		for line := range int64(len(d.Words) / impl.LineWords) {
			if !slices.Equal(loadsOf(t, right(t, impl.FlushLine(d, line))), before) {
				t.Fatalf("a flush of the line %d of %+v turned what is loaded", line, d)
			}
		}
		if !slices.Equal(loadsOf(t, right(t, impl.FenceDevice(d))), before) {
			t.Fatalf("a fence of %+v turned what is loaded", d)
		}
	}
}

func TestAllThatIsFlushedAndFencedIsWhatWasLoaded(t *testing.T) {
	r := rand.New(rand.NewSource(7))
	for range 100 {
		d := anyDevice(r)
		before := loadsOf(t, d)
		for line := range int64(len(d.Words) / impl.LineWords) {
			d = right(t, impl.FlushLine(d, line))
		}
		d = right(t, impl.FenceDevice(d))
		checkLists(t, d, nil, nil)
		if !slices.Equal(d.Words, before) {
			t.Fatalf("kept is %v, loaded was %v", d.Words, before)
		}
	}
}

// inBoth: the word 3 is in both lists, between others.
func inBoth(t *testing.T) impl.Device {
	d := newDevice(t, 2)
	d.Words[3] = 1
	d.Flights = []impl.Cell{{At: 0, Value: 4}, {At: 3, Value: 2}, {At: 8, Value: 5}}
	d.Over = []impl.Cell{{At: 9, Value: 6}, {At: 3, Value: 3}, {At: 0, Value: 7}}
	return d
}

func TestACellInBothLists(t *testing.T) {
	d := inBoth(t)
	if impl.DeviceFault(d) != impl.OK {
		t.Fatalf("a cell in both lists has the fault %d", impl.DeviceFault(d))
	}
	checkLoads(t, d, 3, 3)
	checkLoads(t, d, 0, 7)
	checkLoads(t, d, 8, 5)
	checkLoads(t, d, 9, 6)
	evicted := right(t, impl.EvictWord(d, 3))
	checkKept(t, evicted, impl.Cell{At: 3, Value: 3})
	checkLists(t, evicted, []impl.Cell{{At: 0, Value: 4}, {At: 8, Value: 5}}, []impl.Cell{{At: 9, Value: 6}, {At: 0, Value: 7}})
	fenced := right(t, impl.FenceDevice(d))
	checkKept(t, fenced, impl.Cell{At: 0, Value: 4}, impl.Cell{At: 3, Value: 2}, impl.Cell{At: 8, Value: 5})
	checkLists(t, fenced, nil, d.Over)
}

func TestAnEvictedWordIsKept(t *testing.T) {
	d := inBoth(t)
	onlyFlushed := right(t, impl.EvictWord(d, 8))
	checkKept(t, onlyFlushed, impl.Cell{At: 3, Value: 1}, impl.Cell{At: 8, Value: 5})
	checkLists(t, onlyFlushed, d.Flights[:2], d.Over)
	onlyStored := right(t, impl.EvictWord(d, 9))
	checkKept(t, onlyStored, impl.Cell{At: 3, Value: 1}, impl.Cell{At: 9, Value: 6})
	checkLists(t, onlyStored, d.Flights, d.Over[1:])
	if got := impl.EvictWord(onlyStored, 9); got.Code != impl.ErrNone || !sameLists(got.Device, impl.Device{}) {
		t.Errorf("a word that was evicted is evicted again: %+v", got)
	}
}

func TestAnEvictTurnsNothingThatIsLoaded(t *testing.T) {
	r := rand.New(rand.NewSource(8))
	for range 100 {
		d := anyDevice(r)
		before := loadsOf(t, d)
		for _, c := range slices.Concat(d.Flights, d.Over) {
			evicted := right(t, impl.EvictWord(d, c.At))
			if !slices.Equal(loadsOf(t, evicted), before) || evicted.Words[c.At] != before[c.At] {
				t.Fatalf("an evict of %d of %+v turned what is loaded", c.At, d)
			}
		}
	}
}

func TestEachFateOfEachCell(t *testing.T) {
	d := inBoth(t)
	cells := slices.Concat(d.Flights, d.Over)
	for choice := range 1 << len(cells) {
		fates := make([]int64, len(cells))
		words := slices.Clone(d.Words)
		for i, c := range cells {
			if choice>>i&1 == 1 {
				fates[i] = 1
				words[c.At] = c.Value
			}
		}
		crashed := right(t, impl.CrashDevice(d, fates))
		checkLists(t, crashed, nil, nil)
		if !slices.Equal(crashed.Words, words) {
			t.Errorf("by the fates %v the words are %v, want %v", fates, crashed.Words, words)
		}
	}
}

func TestTheLaterOneStandsWhereBothFatesAreOne(t *testing.T) {
	d := newDevice(t, 2)
	d.Flights = []impl.Cell{{At: 3, Value: 7}}
	d.Over = []impl.Cell{{At: 3, Value: 8}}
	want := map[[2]int64]int64{{0, 0}: 0, {1, 0}: 7, {0, 1}: 8, {1, 1}: 8}
	for fates, value := range want {
		if got := right(t, impl.CrashDevice(d, fates[:])).Words[3]; got != value {
			t.Errorf("by the fates %v there is left %d, want %d", fates, got, value)
		}
	}
}

func TestOfEachWordACrashLeavesWhatWasKeptOrFlushedOrStored(t *testing.T) {
	r := rand.New(rand.NewSource(9))
	for range 300 {
		d := anyDevice(r)
		crashed := right(t, impl.CrashDevice(d, anyFates(r, len(d.Flights)+len(d.Over))))
		for at, word := range crashed.Words {
			cell := impl.Cell{At: int64(at), Value: word}
			if word != d.Words[at] && !slices.Contains(d.Flights, cell) && !slices.Contains(d.Over, cell) {
				t.Fatalf("at %d a crash of %+v left %d", at, d, word)
			}
		}
	}
}

func TestACrashWithoutCellsLeavesTheWords(t *testing.T) {
	d := newDevice(t, 2)
	d.Words[5] = 9
	for _, fates := range [][]int64{nil, {}} {
		checkKept(t, right(t, impl.CrashDevice(d, fates)), impl.Cell{At: 5, Value: 9})
	}
}

func TestActsInOnePartAndInTwo(t *testing.T) {
	r := rand.New(rand.NewSource(10))
	for range 50 {
		d := anyDevice(r)
		acts := anyActs(r, len(d.Words), 30)
		whole := right(t, impl.DoActs(d, acts))
		for cut := range len(acts) + 1 {
			first := right(t, impl.DoActs(d, acts[:cut]))
			if both := right(t, impl.DoActs(first, acts[cut:])); !impl.SameDevices(both, whole) {
				t.Fatalf("the acts %v cut at %d make %+v, uncut %+v", acts, cut, both, whole)
			}
		}
	}
}

func TestActsAreStoresFlushesAndFences(t *testing.T) {
	d := newDevice(t, 2)
	acts := []impl.Act{
		{Kind: impl.ActStore, At: 9, Value: 5}, {Kind: impl.ActStore, At: 1, Value: 6}, {Kind: impl.ActFlush, At: 1},
		{Kind: impl.ActStore, At: 9, Value: 7}, {Kind: impl.ActFence}, {Kind: impl.ActFlush, At: 0},
	}
	d = right(t, impl.DoActs(d, acts))
	checkKept(t, d, impl.Cell{At: 9, Value: 5})
	checkLists(t, d, []impl.Cell{{At: 1, Value: 6}}, []impl.Cell{{At: 9, Value: 7}})
	for _, none := range [][]impl.Act{nil, {}} {
		if same := right(t, impl.DoActs(d, none)); !sameLists(same, d) {
			t.Errorf("no acts turned %+v to %+v", d, same)
		}
	}
}

func TestSameDevices(t *testing.T) {
	base := func() impl.Device {
		return impl.Device{Words: make([]int64, 16), Flights: []impl.Cell{{At: 1, Value: 2}, {At: 3, Value: 4}}, Over: []impl.Cell{{At: 5, Value: 6}, {At: 1, Value: 2}}}
	}
	if !impl.SameDevices(base(), base()) {
		t.Error("a device is not the same as itself")
	}
	turns := []func(d *impl.Device){
		func(d *impl.Device) { d.Words[0] = 1 },
		func(d *impl.Device) { d.Words[15] = 1 },
		func(d *impl.Device) { d.Words = d.Words[:15] },
		func(d *impl.Device) { d.Words = append(d.Words, 0) },
		func(d *impl.Device) { d.Words = nil },
		func(d *impl.Device) { d.Flights[1].At = 4 },
		func(d *impl.Device) { d.Flights[0].Value = 4 },
		func(d *impl.Device) { d.Flights[0], d.Flights[1] = d.Flights[1], d.Flights[0] },
		func(d *impl.Device) { d.Flights = d.Flights[:1] },
		func(d *impl.Device) { d.Flights = nil },
		func(d *impl.Device) { d.Over[1].At = 4 },
		func(d *impl.Device) { d.Over[0].Value = 4 },
		func(d *impl.Device) { d.Over[0], d.Over[1] = d.Over[1], d.Over[0] },
		func(d *impl.Device) { d.Over = append(d.Over, impl.Cell{}) },
		func(d *impl.Device) { d.Over = nil },
		func(d *impl.Device) { d.Flights, d.Over = d.Over, d.Flights },
	}
	for i, turn := range turns {
		other := base()
		turn(&other)
		if impl.SameDevices(base(), other) || impl.SameDevices(other, base()) {
			t.Errorf("the turn number %d is not seen: %+v", i, other)
		}
		if !impl.SameDevices(other, copyOf(other)) {
			t.Errorf("a device is not the same as its copy: %+v", other)
		}
	}
	if !impl.SameDevices(impl.Device{}, impl.Device{Words: []int64{}, Flights: []impl.Cell{}, Over: []impl.Cell{}}) {
		t.Error("an empty list and nil are not the same")
	}
}

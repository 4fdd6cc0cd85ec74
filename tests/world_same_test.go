package tests

import (
	"math"
	"math/rand"
	"slices"
	"testing"

	"loop.example/g00691/impl"
)

func checkBusy(t *testing.T, busy []bool, want impl.IntsResult) {
	t.Helper()
	got := impl.BusyIn(impl.State{Busy: busy})
	if got.Code != want.Code || !slices.Equal(got.List, want.List) {
		t.Fatalf("BusyIn of %v = %+v, want %+v", busy, got, want)
	}
}

func TestWhoIsBusy(t *testing.T) {
	checkBusy(t, nil, impl.IntsResult{})
	checkBusy(t, []bool{}, impl.IntsResult{})
	checkBusy(t, make([]bool, 4), impl.IntsResult{})
	checkBusy(t, []bool{true, true, true, true}, impl.IntsResult{List: []int64{0, 1, 2, 3}})
	checkBusy(t, []bool{false, true, false, true}, impl.IntsResult{List: []int64{1, 3}})
	checkBusy(t, []bool{true}, impl.IntsResult{List: []int64{0}})
	for many := range 5 {
		for bits := range 1 << many {
			var busy []bool
			for i := range many {
				busy = append(busy, bits>>i&1 == 1)
			}
			checkBusy(t, busy, busyByRule(impl.State{Busy: busy}))
		}
	}
	for _, many := range []int{5, 6, 100, 100000} {
		checkBusy(t, make([]bool, many), impl.IntsResult{Code: impl.ErrMany})
		checkBusy(t, slices.Repeat([]bool{true}, many), impl.IntsResult{Code: impl.ErrMany})
	}
	// It is asked of any state, whatever else is in it.
	s := anyState(rand.New(rand.NewSource(51)))
	s.Up, s.Busy = false, []bool{false, true}
	if got := impl.BusyIn(s); got.Code != 0 || !slices.Equal(got.List, []int64{1}) {
		t.Errorf("BusyIn = %+v", got)
	}
	running := ran(t, impl.Config{Lines: 4, Threads: 4, Clock: 2}, []impl.Event{beginEvent(3, syncOp()), beginEvent(1, syncOp())})
	if got := impl.BusyIn(running); !slices.Equal(got.List, []int64{1, 3}) {
		t.Errorf("BusyIn = %+v", got)
	}
}

func copyOfOp(o impl.Op) impl.Op {
	o.Numbers = slices.Clone(o.Numbers)
	return o
}

func copyOfNote(n impl.Note) impl.Note {
	n.Op = copyOfOp(n.Op)
	n.Reply.Numbers, n.Reply.Names = slices.Clone(n.Reply.Numbers), slices.Clone(n.Reply.Names)
	return n
}

func copyOfNotes(notes []impl.Note) []impl.Note {
	notes = slices.Clone(notes)
	for i := range notes {
		notes[i] = copyOfNote(notes[i])
	}
	return notes
}

func copyOfState(s impl.State) impl.State {
	s.Device, s.Items, s.Notes = copyOf(s.Device), copyOfItems(s.Items), copyOfNotes(s.Notes)
	s.Busy, s.Codes = slices.Clone(s.Busy), slices.Clone(s.Codes)
	return s
}

// noteTurns: each turns one field of a note, or of what is in it, alone.
func noteTurns() map[string]func(*impl.Note) {
	return map[string]func(*impl.Note){
		"Kind":             func(n *impl.Note) { n.Kind++ },
		"Who":              func(n *impl.Note) { n.Who-- },
		"Epoch":            func(n *impl.Note) { n.Epoch++ },
		"Op.Kind":          func(n *impl.Note) { n.Op.Kind++ },
		"Op.Path":          func(n *impl.Note) { n.Op.Path += "x" },
		"Op.To":            func(n *impl.Note) { n.Op.To += "x" },
		"Op.Dir":           func(n *impl.Note) { n.Op.Dir = !n.Op.Dir },
		"Op.Index":         func(n *impl.Note) { n.Op.Index++ },
		"Op.Numbers":       func(n *impl.Note) { n.Op.Numbers = append(n.Op.Numbers, 0) },
		"Reply.Code":       func(n *impl.Note) { n.Reply.Code++ },
		"Reply.Numbers":    func(n *impl.Note) { n.Reply.Numbers = append(n.Reply.Numbers, 0) },
		"Reply.Names":      func(n *impl.Note) { n.Reply.Names = append(n.Reply.Names, "") },
		"a number":         func(n *impl.Note) { turnFirst(n.Op.Numbers, &n.Kind) },
		"a told number":    func(n *impl.Note) { turnFirst(n.Reply.Numbers, &n.Kind) },
		"a told name":      func(n *impl.Note) { turnFirstName(n.Reply.Names, &n.Kind) },
		"one number fewer": func(n *impl.Note) { n.Op.Numbers = fewer(n.Op.Numbers, &n.Kind) },
		"one told fewer":   func(n *impl.Note) { n.Reply.Numbers = fewer(n.Reply.Numbers, &n.Kind) },
		"one name fewer":   func(n *impl.Note) { n.Reply.Names = fewer(n.Reply.Names, &n.Kind) },
	}
}

// turnFirst: where there is no element to turn, the number is turned instead, so that something always is.
func turnFirst(list []int64, instead *int64) {
	if len(list) == 0 {
		*instead++
		return
	}
	list[0]++
}

func turnFirstName(list []string, instead *int64) {
	if len(list) == 0 {
		*instead++
		return
	}
	list[0] += "x"
}

func fewer[E any](list []E, instead *int64) []E {
	if len(list) == 0 {
		*instead++
		return list
	}
	return list[:len(list)-1]
}

func checkSameNotes(t *testing.T, what string, a []impl.Note, b []impl.Note, want bool) {
	t.Helper()
	if impl.SameNotes(a, b) != want || impl.SameNotes(b, a) != want {
		t.Fatalf("%s: SameNotes of %+v and %+v is not %v", what, a, b, want)
	}
}

// oddNotes: such as runs make, and such as none makes.
func oddNotes() []impl.Note {
	return []impl.Note{
		{}, {Kind: impl.NoteCrash}, {Kind: impl.NoteUp, Epoch: 7}, {Kind: impl.NoteBegin, Who: 3, Epoch: 2, Op: makeDir("/a/b")},
		{Kind: impl.NoteEnd, Who: 1, Op: readOp("/a"), Reply: impl.Reply{Numbers: []int64{1, 2, 3, 4}}},
		{Kind: impl.NoteEnd, Op: listOp("/"), Reply: impl.Reply{Names: []string{"a", "b"}}},
		{Kind: impl.NoteEnd, Epoch: 9, Op: writeOp("/a", 2, 1, 2, 3, 4), Reply: impl.Reply{Code: impl.ErrFull}},
		{Kind: impl.NoteEnd, Op: moveOp("/a", "/b")},
		{Kind: math.MinInt64, Who: -5, Epoch: math.MaxInt64, Op: impl.Op{Kind: -9, Path: "\xff", To: "//", Dir: true, Index: math.MinInt64, Numbers: []int64{-1, 1 << 60}}, Reply: impl.Reply{Code: -7, Numbers: []int64{math.MaxInt64}, Names: []string{"", "no name\xff"}}},
	}
}

func TestSameNotesSeesEachField(t *testing.T) {
	list := oddNotes()
	checkSameNotes(t, "a copy", list, copyOfNotes(list), true)
	for i := range list {
		checkSameNotes(t, "a copy", list[i:i+1], copyOfNotes(list[i:i+1]), true)
		for what, turn := range noteTurns() {
			other := copyOfNotes(list)
			turn(&other[i])
			checkSameNotes(t, what, list, other, false)
			checkSameNotes(t, what, list[i:i+1], other[i:i+1], false)
		}
	}
}

func TestSameNotesSeesOrderAndHowMany(t *testing.T) {
	a, b := impl.Note{Kind: impl.NoteCrash}, impl.Note{Kind: impl.NoteUp, Epoch: 2}
	checkSameNotes(t, "another order", []impl.Note{a, b}, []impl.Note{b, a}, false)
	checkSameNotes(t, "one fewer", []impl.Note{a, b}, []impl.Note{a}, false)
	checkSameNotes(t, "one twice", []impl.Note{a, a}, []impl.Note{a}, false)
	checkSameNotes(t, "a zero one and none", []impl.Note{{}}, nil, false)
	checkSameNotes(t, "nil and nil", nil, nil, true)
	checkSameNotes(t, "nil and empty", nil, []impl.Note{}, true)
	hasNil := []impl.Note{{Kind: 2}}
	hasEmpty := []impl.Note{{Kind: 2, Op: impl.Op{Numbers: []int64{}}, Reply: impl.Reply{Numbers: []int64{}, Names: []string{}}}}
	checkSameNotes(t, "lists that are nil and empty", hasNil, hasEmpty, true)
	// A number that is told is not one of the op, and a name is no number.
	checkSameNotes(t, "numbers elsewhere", []impl.Note{{Op: impl.Op{Numbers: []int64{1}}}}, []impl.Note{{Reply: impl.Reply{Numbers: []int64{1}}}}, false)
	checkSameNotes(t, "two names or one", []impl.Note{{Reply: impl.Reply{Names: []string{"a", "b"}}}}, []impl.Note{{Reply: impl.Reply{Names: []string{"ab"}}}}, false)
}

func checkSameStates(t *testing.T, what string, a impl.State, b impl.State, want bool) {
	t.Helper()
	if impl.SameStates(a, b) != want || impl.SameStates(b, a) != want {
		t.Fatalf("%s: SameStates of %+v and %+v is not %v", what, a, b, want)
	}
}

// stateTurns: each turns one field of a state, or of what is in it, alone.
func stateTurns() map[string]func(*impl.State) {
	return map[string]func(*impl.State){
		"Up":             func(s *impl.State) { s.Up = !s.Up },
		"Now":            func(s *impl.State) { s.Now++ },
		"Sure":           func(s *impl.State) { s.Sure-- },
		"Free":           func(s *impl.State) { s.Free++ },
		"Words":          func(s *impl.State) { s.Device.Words = append(s.Device.Words, 0) },
		"a word":         func(s *impl.State) { turnFirst(s.Device.Words, &s.Now) },
		"Flights":        func(s *impl.State) { s.Device.Flights = append(s.Device.Flights, impl.Cell{}) },
		"Over":           func(s *impl.State) { s.Device.Over = append(s.Device.Over, impl.Cell{}) },
		"a flight's At":  func(s *impl.State) { turnCell(s.Device.Flights, 1, 0, &s.Now) },
		"a flight's":     func(s *impl.State) { turnCell(s.Device.Flights, 0, 1, &s.Now) },
		"a cell's At":    func(s *impl.State) { turnCell(s.Device.Over, 1, 0, &s.Now) },
		"a cell's":       func(s *impl.State) { turnCell(s.Device.Over, 0, 1, &s.Now) },
		"Items":          func(s *impl.State) { s.Items = append(s.Items, impl.Item{}) },
		"an item's Path": func(s *impl.State) { turnItem(s, func(i *impl.Item) { i.Path += "x" }) },
		"an item's Dir":  func(s *impl.State) { turnItem(s, func(i *impl.Item) { i.Dir = !i.Dir }) },
		"an item's Data": func(s *impl.State) { turnItem(s, func(i *impl.Item) { i.Data = append(i.Data, 0) }) },
		"Busy":           func(s *impl.State) { s.Busy = append(s.Busy, false) },
		"one busy fewer": func(s *impl.State) { s.Busy = fewer(s.Busy, &s.Now) },
		"one that is":    func(s *impl.State) { turnBusy(s) },
		"Codes":          func(s *impl.State) { s.Codes = append(s.Codes, 0) },
		"a code":         func(s *impl.State) { turnFirst(s.Codes, &s.Now) },
		"one code fewer": func(s *impl.State) { s.Codes = fewer(s.Codes, &s.Now) },
		"Notes":          func(s *impl.State) { s.Notes = append(s.Notes, impl.Note{}) },
		"one note fewer": func(s *impl.State) { s.Notes = fewer(s.Notes, &s.Now) },
		"one item fewer": func(s *impl.State) { s.Items = fewer(s.Items, &s.Now) },
		"one word fewer": func(s *impl.State) { s.Device.Words = fewer(s.Device.Words, &s.Now) },
		"a flight to it": func(s *impl.State) {
			s.Device.Flights, s.Device.Over = append(s.Device.Flights, impl.Cell{At: 9}), fewer(s.Device.Over, &s.Now)
		},
		"Now and Sure":    func(s *impl.State) { s.Now, s.Sure = s.Now+1, s.Sure+1 },
		"Sure and Free":   func(s *impl.State) { s.Sure, s.Free = s.Sure+1, s.Free-1 },
		"Codes and Words": func(s *impl.State) { s.Codes, s.Device.Words = append(s.Codes, 1), append(s.Device.Words, 1) },
	}
}

func turnCell(cells []impl.Cell, at int64, value int64, instead *int64) {
	if len(cells) == 0 {
		*instead++
		return
	}
	cells[len(cells)-1].At += at
	cells[len(cells)-1].Value += value
}

func turnItem(s *impl.State, turn func(*impl.Item)) {
	if len(s.Items) == 0 {
		s.Now++
		return
	}
	turn(&s.Items[len(s.Items)-1])
}

func turnBusy(s *impl.State) {
	if len(s.Busy) == 0 {
		s.Now++
		return
	}
	s.Busy[0] = !s.Busy[0]
}

// anyState need not be any run's.
func anyState(r *rand.Rand) impl.State {
	s := impl.State{Up: r.Intn(2) == 0, Now: r.Int63n(3) - 1, Sure: r.Int63n(3), Free: r.Int63n(3) - 1}
	if r.Intn(2) == 0 {
		s.Device = anyDevice(r)
	}
	s.Items = spoiltItems(r, anyItems(r))
	for range r.Intn(7) {
		s.Busy = append(s.Busy, r.Intn(2) == 0)
		s.Codes = append(s.Codes, r.Int63n(12)-1)
	}
	for range r.Intn(4) {
		s.Notes = append(s.Notes, oddNotes()[r.Intn(len(oddNotes()))])
	}
	return s
}

func TestSameStatesSeesEachField(t *testing.T) {
	r := rand.New(rand.NewSource(52))
	states := []impl.State{{}, ran(t, smallConfig()), ran(t, smallConfig(), someThings(), []impl.Event{beginEvent(1, syncOp()), daemonEvent()})}
	for range 30 {
		states = append(states, anyState(r))
	}
	for _, s := range states {
		checkSameStates(t, "itself", s, s, true)
		checkSameStates(t, "a copy", s, copyOfState(s), true)
		for what, turn := range stateTurns() {
			other := copyOfState(s)
			turn(&other)
			checkSameStates(t, what, s, other, false)
		}
		for i := range s.Notes {
			for what, turn := range noteTurns() {
				other := copyOfState(s)
				turn(&other.Notes[i])
				checkSameStates(t, what, s, other, false)
			}
		}
	}
}

func TestNilAndEmptyListsOfStatesAreTheSame(t *testing.T) {
	empty := impl.State{
		Device: impl.Device{Words: []int64{}, Flights: []impl.Cell{}, Over: []impl.Cell{}},
		Items:  []impl.Item{}, Busy: []bool{}, Codes: []int64{}, Notes: []impl.Note{},
	}
	checkSameStates(t, "all of them", impl.State{}, empty, true)
	hasNil := impl.State{Items: []impl.Item{{Path: "/a"}}, Notes: []impl.Note{{Kind: 2}}}
	hasEmpty := impl.State{
		Items: []impl.Item{{Path: "/a", Data: []int64{}}},
		Notes: []impl.Note{{Kind: 2, Op: impl.Op{Numbers: []int64{}}, Reply: impl.Reply{Numbers: []int64{}, Names: []string{}}}},
	}
	checkSameStates(t, "those within", hasNil, hasEmpty, true)
}

func TestAnyTwoStatesAreHeldAgainstEachOther(t *testing.T) {
	r := rand.New(rand.NewSource(53))
	seen := map[bool]int{}
	for range 2000 {
		a := anyState(r)
		b := copyOfState(a)
		if r.Intn(2) == 0 {
			other := anyState(r)
			switch r.Intn(5) {
			case 0:
				b.Device = other.Device
			case 1:
				b.Items = other.Items
			case 2:
				b.Busy, b.Codes = other.Busy, other.Codes
			case 3:
				b.Notes = other.Notes
			case 4:
				b.Up, b.Now, b.Sure, b.Free = other.Up, other.Now, other.Sure, other.Free
			}
		}
		want := sameStatesByRule(a, b)
		checkSameStates(t, "any two", a, b, want)
		checkSameNotes(t, "any two", a.Notes, b.Notes, sameNotesByRule(a.Notes, b.Notes))
		seen[want]++
	}
	if seen[true] < 500 || seen[false] < 500 {
		t.Errorf("too few were the same, or not: %v", seen)
	}
}

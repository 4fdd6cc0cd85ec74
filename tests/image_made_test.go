package tests

import (
	"math/rand"
	"slices"

	"loop.example/g00691/impl"
)

// Images to ask: words that a device keeps, made by hand or by chance from a seed.

func emptyImage(lines int, clock int64) []int64 {
	words := make([]int64, 8*lines)
	words[0] = 691691691
	words[1] = clock
	return words
}

// imageOf: the blocks stand in the lines 1, 2 and so on; a nil one leaves its line free, and so are two lines behind them.
func imageOf(clock int64, blocks ...[]int64) []int64 {
	words := emptyImage(len(blocks)+3, clock)
	for i, block := range blocks {
		copy(words[8*(i+1):8*(i+2)], block)
	}
	return words
}

// made panics of what has no words, so that no test takes a free line for a block.
func made(answer impl.WordsResult) []int64 {
	if answer.Code != 0 {
		panic("a block of a test has a code")
	}
	return answer.Words
}

func dirBlock(uid int64, parent int64, name string, epoch int64) []int64 {
	return made(packNodeByRule(impl.Node{Uid: uid, Dir: true, Parent: parent, Name: name}, epoch))
}

func fileBlock(uid int64, parent int64, name string, size int64, epoch int64) []int64 {
	return made(packNodeByRule(impl.Node{Uid: uid, Parent: parent, Name: name, Size: size}, epoch))
}

func pieceBlock(uid int64, index int64, epoch int64) []int64 {
	return made(packDataByRule(uid, index, []int64{uid, index, epoch, 9999}, epoch))
}

func goneBlock(uid int64, epoch int64) []int64 {
	return made(packGoneByRule(uid, epoch))
}

// withRest: the head of a block with other words behind it.
func withRest(block []int64, rest ...int64) []int64 {
	other := slices.Clone(block)
	copy(other[1:], rest)
	return other
}

// anySmallBlock tells of few things and few epochs, so that many of them meet.
func anySmallBlock(r *rand.Rand, clock int64) []int64 {
	uid := 1 + r.Int63n(3)
	epoch := min(1+r.Int63n(clock+1), 9999)
	switch r.Intn(6) {
	case 0:
		return goneBlock(uid, epoch)
	case 1, 2:
		return pieceBlock(uid, r.Int63n(2), epoch)
	case 3:
		return fileBlock(uid, 0, string(rune('a'+r.Intn(3))), r.Int63n(3), epoch)
	}
	parent := int64(0)
	if r.Intn(2) == 0 {
		parent = (uid + 1 + r.Int63n(3)) % 4
	}
	return dirBlock(uid, parent, string(rune('a'+r.Intn(3))), epoch)
}

// chance makes an image of which LiveOf has no code, block by block, as long as there are lines.
type chance struct {
	r      *rand.Rand
	clock  int64
	room   int
	blocks [][]int64
	depths map[int64]int
	dirs   []int64
}

func anyClock(r *rand.Rand) int64 {
	clocks := []int64{2, 3, 4, 5, 10, 20, 100, 9998, 9999}
	return clocks[r.Intn(len(clocks))]
}

func anyImage(r *rand.Rand) []int64 {
	lines := 2 + r.Intn(40)
	c := &chance{r: r, clock: anyClock(r), room: lines - 1 - r.Intn(3), depths: map[int64]int{0: 0}, dirs: []int64{0}}
	first := []int64{1, 1, 500, 999 - 40}[r.Intn(4)]
	for uid := first; uid < first+41; uid++ {
		c.addUid(uid)
	}
	words := emptyImage(lines, c.clock)
	for i, line := range r.Perm(lines - 1)[:len(c.blocks)] {
		copy(words[8*(line+1):], c.blocks[i])
	}
	c.scribbleFree(words)
	return words
}

// scribbleFree: whatever stands behind the head of a free line, or in the first line, tells nothing.
func (c *chance) scribbleFree(words []int64) {
	for line := range len(words) / 8 {
		if c.r.Intn(3) == 0 && (line == 0 || words[8*line] == 0) {
			for i := 2; i < 8; i++ {
				words[8*line+i] = c.r.Int63n(noWord)
			}
		}
	}
}

func (c *chance) put(blocks ...[]int64) {
	c.blocks = append(c.blocks, blocks...)
	c.room -= len(blocks)
}

// epochs: so many sure ones that are not alike, rising; or none, if there are not so many.
func (c *chance) epochs(many int) []int64 {
	top := min(c.clock-2, 60)
	if int64(many) > top {
		return nil
	}
	var epochs []int64
	for _, n := range c.r.Perm(int(top))[:many] {
		epochs = append(epochs, c.clock-2-int64(n))
	}
	slices.Sort(epochs)
	return epochs
}

func (c *chance) addUid(uid int64) {
	switch c.r.Intn(5) {
	case 0:
		c.addGone(uid)
	case 1:
		c.addDir(uid)
	case 2, 3:
		c.addFile(uid)
	}
	if c.room > 0 && c.r.Intn(3) == 0 {
		c.addNew(uid)
	}
}

// addNew: what is newer than sure, with any words behind its head.
func (c *chance) addNew(uid int64) {
	epoch := min(c.clock-1+c.r.Int63n(3)*c.r.Int63n(3), 9999)
	block := [][]int64{goneBlock(uid, epoch), pieceBlock(uid, c.r.Int63n(4), epoch), dirBlock(uid, 0, "new", epoch)}[c.r.Intn(3)]
	if c.r.Intn(2) == 0 {
		block = withRest(block, c.r.Int63n(noWord), c.r.Int63n(noWord), noWord-1, c.r.Int63n(3), 0, c.r.Int63n(9))
	}
	c.put(block)
}

// addOld: what a node was, or that it was gone, ahead of what lives; nothing of it has to fit any more.
func (c *chance) addOld(uid int64, epoch int64) {
	switch c.r.Intn(3) {
	case 0:
		c.put(goneBlock(uid, epoch))
	case 1:
		c.put(fileBlock(uid, (uid+7)%1000, "old", 4, epoch))
	case 2:
		c.put(dirBlock(uid, (uid+1)%1000, "old", epoch))
	}
}

func (c *chance) addLoose(uid int64, index int64) {
	if epochs := c.epochs(1); epochs != nil && c.room > 0 {
		c.put(pieceBlock(uid, index, epochs[0]))
	}
}

func (c *chance) addGone(uid int64) {
	epochs := c.epochs(2)
	if epochs == nil || c.room < 2 {
		return
	}
	c.addOld(uid, epochs[0])
	c.put(goneBlock(uid, epochs[1]))
	c.addLoose(uid, c.r.Int63n(4))
}

func (c *chance) anyParent() int64 {
	return c.dirs[c.r.Intn(len(c.dirs))]
}

// uidName is another one for each Uid, so that no two names meet.
func uidName(uid int64) string {
	return "n" + string(rune('a'+uid/100)) + string(rune('a'+uid/10%10)) + string(rune('a'+uid%10))
}

func (c *chance) addDir(uid int64) {
	epochs := c.epochs(1 + c.r.Intn(2))
	if epochs == nil || c.room < len(epochs) {
		return
	}
	parent := c.anyParent()
	c.put(dirBlock(uid, parent, uidName(uid), epochs[len(epochs)-1]))
	if len(epochs) > 1 {
		c.addOld(uid, epochs[0])
	}
	c.depths[uid] = c.depths[parent] + 1
	if c.depths[uid] < 4 {
		c.dirs = append(c.dirs, uid)
	}
	if c.r.Intn(4) == 0 {
		c.addLoose(uid, c.r.Int63n(4))
	}
}

func (c *chance) addFile(uid int64) {
	size := c.r.Int63n(5)
	epochs := c.epochs(1 + c.r.Intn(2))
	if epochs == nil || c.room < len(epochs)+2*int(size) {
		return
	}
	c.put(fileBlock(uid, c.anyParent(), uidName(uid), size, epochs[len(epochs)-1]))
	if len(epochs) > 1 {
		c.addOld(uid, epochs[0])
	}
	for index := range size {
		// The epochs of the node serve for the piece, too: it is another thing.
		for _, epoch := range epochs {
			c.put(pieceBlock(uid, index, epoch))
		}
	}
	if size < 4 && c.r.Intn(4) == 0 {
		c.addLoose(uid, size)
	}
}

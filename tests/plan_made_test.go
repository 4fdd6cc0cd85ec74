package tests

import (
	"math/rand"
	"slices"

	"loop.example/g00691/impl"
)

// Words to change, and changes to hold against others: made by hand, or by chance from a seed.

func nodeTurn(uid int64, isDir bool, parent int64, name string, size int64) impl.Change {
	n := impl.Node{Uid: uid, Dir: isDir, Parent: parent, Name: name, Size: size}
	return impl.Change{Kind: impl.ChangeNode, Uid: uid, Node: n}
}

func pieceTurn(uid int64, index int64, list ...int64) impl.Change {
	return impl.Change{Kind: impl.ChangeData, Uid: uid, Index: index, Numbers: list}
}

func goneTurn(uid int64) impl.Change {
	return impl.Change{Kind: impl.ChangeGone, Uid: uid}
}

func looseTurn(uid int64, index int64) impl.Change {
	return impl.Change{Kind: impl.ChangeLoose, Uid: uid, Index: index}
}

// freeBlock is that of a free line, with other words behind the first one.
func freeBlock() []int64 {
	return []int64{0, 32017, 7, 0, 9999, noWord - 1, 1, 48018}
}

// someKept: nothing is dead; free are the lines 1, 7, and the two behind the 16 others; the next Uid is 42.
func someKept() []int64 {
	return imageOf(9,
		freeBlock(), dirBlock(5, 0, "a", 1), dirBlock(3, 5, "b", 2), fileBlock(8, 5, "f", 2, 7),
		pieceBlock(8, 1, 7), pieceBlock(8, 0, 6), freeBlock(), fileBlock(2, 0, "e", 0, 7),
		dirBlock(12, 0, "z", 3), pieceBlock(20, 3, 1), pieceBlock(20, 2, 2), pieceBlock(20, 1, 3), pieceBlock(20, 0, 4), fileBlock(20, 12, "y", 4, 5),
		dirBlock(30, 3, "c", 4), fileBlock(41, 30, "d", 1, 4), pieceBlock(41, 0, 5), dirBlock(9, 0, "ab", 6))
}

// laid: the words with a block in a line.
func laid(words []int64, line int, block []int64) []int64 {
	words = slices.Clone(words)
	copy(words[8*line:8*line+8], block)
	return words
}

// ofClock: the words with another clock, whatever it is.
func ofClock(words []int64, clock int64) []int64 {
	words = slices.Clone(words)
	words[1] = clock
	return words
}

// swept: what is dead is free, so that nothing is dead any more; all other words stay.
func swept(words []int64) []int64 {
	words = slices.Clone(words)
	for _, line := range liveByRule(words).Dead {
		words[8*line] = 0
	}
	return words
}

// tight: all lines that are not free in any order, with so many free lines among them, if that makes whole an image.
func tight(r *rand.Rand, words []int64, free int) []int64 {
	var blocks [][]int64
	for line := 1; line < len(words)/8; line++ {
		if words[8*line] != 0 {
			blocks = append(blocks, words[8*line:8*line+8])
		}
	}
	for range max(free, 1-len(blocks)) {
		blocks = append(blocks, freeBlock())
	}
	blocks = blocks[:min(len(blocks), 40)]
	r.Shuffle(len(blocks), func(i int, j int) { blocks[i], blocks[j] = blocks[j], blocks[i] })
	return append(slices.Clone(words[:8]), slices.Concat(blocks...)...)
}

// anyKept: words of which LiveOf has no code and nothing is dead, with few or many free lines.
func anyKept(r *rand.Rand) []int64 {
	words := swept(renamed(anyImage(r)))
	if r.Intn(2) == 0 {
		return tight(r, words, r.Intn(4))
	}
	return words
}

// opOn wants something of what the words tell.
func opOn(r *rand.Rand, words []int64) impl.Op {
	items := treeByRule(words).Items
	o := anyOp(r, items)
	// The names of a seed are rarely met by chance, so what is made goes into a directory more often than not.
	dirs := slices.DeleteFunc(slices.Clone(items), func(i impl.Item) bool { return !i.Dir })
	if len(dirs) > 0 && r.Intn(2) == 0 {
		into := dirs[r.Intn(len(dirs))].Path + "/" + anyName(r)
		switch o.Kind {
		case impl.OpMake:
			o.Path = into
		case impl.OpMove:
			o.To = into
		}
	}
	return o
}

// anyChange is one that need not be any op's.
func anyChange(r *rand.Rand) impl.Change {
	c := impl.Change{Kind: r.Int63n(6), Uid: r.Int63n(3), Index: r.Int63n(3) - 1}
	if r.Intn(2) == 0 {
		c.Node = impl.Node{Uid: r.Int63n(2), Dir: r.Intn(2) == 0, Parent: r.Int63n(2), Name: []string{"", "a", "B"}[r.Intn(3)], Size: r.Int63n(2)}
	}
	if r.Intn(2) == 0 {
		c.Numbers = slices.Repeat([]int64{r.Int63n(3) - 1}, r.Intn(6))
	}
	return c
}

func copyOfChanges(list []impl.Change) []impl.Change {
	list = slices.Clone(list)
	for i := range list {
		list[i].Numbers = slices.Clone(list[i].Numbers)
	}
	return list
}

// changeTurns: the same change with one thing turned, each another one.
func changeTurns(c impl.Change) []impl.Change {
	var turns []impl.Change
	turn := func(turned func(*impl.Change)) {
		other := copyOfChanges([]impl.Change{c})[0]
		turned(&other)
		turns = append(turns, other)
	}
	turn(func(c *impl.Change) { c.Kind++ })
	turn(func(c *impl.Change) { c.Uid++ })
	turn(func(c *impl.Change) { c.Index-- })
	turn(func(c *impl.Change) { c.Node.Uid++ })
	turn(func(c *impl.Change) { c.Node.Dir = !c.Node.Dir })
	turn(func(c *impl.Change) { c.Node.Parent++ })
	turn(func(c *impl.Change) { c.Node.Name += "x" })
	turn(func(c *impl.Change) { c.Node.Size++ })
	turn(func(c *impl.Change) { c.Numbers = append(c.Numbers, 0) })
	for i := range c.Numbers {
		turn(func(c *impl.Change) { c.Numbers[i]++ })
		turn(func(c *impl.Change) { c.Numbers = c.Numbers[:i] })
		turn(func(c *impl.Change) { c.Numbers = c.Numbers[i+1:] })
	}
	return turns
}

package tests

import (
	"slices"
	"testing"

	"loop.example/g00691/impl"
)

func TestAFileWhosePieceIsMissing(t *testing.T) {
	for size := int64(1); size <= 4; size++ {
		blocks := [][]int64{fileBlock(5, 0, "a", size, 3)}
		for index := range size {
			blocks = append(blocks, pieceBlock(5, index, 1+index%3))
		}
		whole := imageOf(5, blocks...)
		checkLiveCode(t, "no piece is missing", whole, impl.OK)
		for index := range size {
			line := 8 * (index + 2)
			missing := slices.Clone(whole)
			missing[line] = 0
			checkLiveCode(t, "a piece is missing", missing, impl.ErrState)
			copy(missing[line:], pieceBlock(5, index, 4))
			checkLiveCode(t, "a piece is not sure yet", missing, impl.ErrState)
			copy(missing[line:], pieceBlock(6, index, 3))
			checkLiveCode(t, "a piece is another one's", missing, impl.ErrState)
			copy(missing[line:], goneBlock(5, 2))
			checkLiveCode(t, "it was gone in the place of a piece", missing, impl.ErrState)
		}
		blocks[0] = fileBlock(5, 0, "a", size-1, 3)
		if got := impl.LiveOf(imageOf(5, blocks...)); got.Code != impl.OK || !slices.Equal(got.Dead, lines(size+1)) {
			t.Errorf("a file that is one piece smaller: LiveOf = %+v", got)
		}
	}
}

func TestPiecesThatBelongToNothingAreDead(t *testing.T) {
	for index := range int64(4) {
		loose := pieceBlock(5, index, 3)
		checkTold(t, "of an empty file", imageOf(5, fileBlock(5, 0, "a", 0, 1), loose), told{nodes: lines(1), dead: lines(2)})
		checkTold(t, "of a directory", imageOf(5, loose, dirBlock(5, 0, "a", 1)), told{nodes: lines(2), dead: lines(1)})
		checkTold(t, "of a directory that was a file", imageOf(5, loose, dirBlock(5, 0, "a", 3), fileBlock(5, 0, "a", 4, 2)), told{nodes: lines(2), dead: lines(1, 3)})
		checkTold(t, "of what is gone", imageOf(5, loose, goneBlock(5, 3), fileBlock(5, 0, "a", 4, 2)), told{dead: lines(1, 2, 3)})
		checkTold(t, "of what is gone, and nothing else is left", imageOf(5, loose, goneBlock(5, 3)), told{dead: lines(1, 2)})
		checkTold(t, "of nobody", imageOf(5, loose), told{dead: lines(1)})
		checkTold(t, "of nobody beside others", imageOf(5, loose, fileBlock(4, 0, "a", 0, 1), dirBlock(6, 0, "b", 1)), told{nodes: lines(2, 3), dead: lines(1)})
		checkTold(t, "of what is not sure yet", imageOf(5, loose, fileBlock(5, 0, "a", 4, 4)), told{dead: lines(1, 2)})
	}
	checkTold(t, "an Index of just the Size", imageOf(5, fileBlock(5, 0, "a", 1, 1), pieceBlock(5, 1, 3), pieceBlock(5, 0, 3)), told{nodes: lines(1), datas: lines(3), dead: lines(2)})
	checkTold(t, "an Index of just the Size", imageOf(5, fileBlock(5, 0, "a", 3, 1), pieceBlock(5, 3, 3), pieceBlock(5, 2, 3), pieceBlock(5, 1, 3), pieceBlock(5, 0, 3)), told{nodes: lines(1), datas: lines(5, 4, 3), dead: lines(2)})
	checkLiveCode(t, "as many pieces as its Size, but not those", imageOf(5, fileBlock(5, 0, "a", 1, 1), pieceBlock(5, 1, 3)), impl.ErrState)
	checkLiveCode(t, "as many pieces as there are wanted, but of others", imageOf(5, fileBlock(5, 0, "a", 2, 1), fileBlock(6, 0, "b", 0, 1), pieceBlock(5, 0, 3), pieceBlock(6, 0, 3)), impl.ErrState)
}

func TestAParentThatIsNoDirectory(t *testing.T) {
	children := map[string][]int64{"a directory": dirBlock(5, 7, "a", 1), "a file": fileBlock(5, 7, "a", 0, 3)}
	for what, child := range children {
		checkLiveCode(t, what+" whose Parent is not there", imageOf(5, child), impl.ErrState)
		checkLiveCode(t, what+" whose Parent is not there", imageOf(5, dirBlock(6, 0, "b", 1), child, dirBlock(8, 0, "c", 1)), impl.ErrState)
		checkLiveCode(t, what+" whose Parent is a file", imageOf(5, child, fileBlock(7, 0, "b", 0, 1)), impl.ErrState)
		checkLiveCode(t, what+" whose Parent is a file by now", imageOf(5, child, fileBlock(7, 0, "b", 0, 3), dirBlock(7, 0, "b", 2)), impl.ErrState)
		checkLiveCode(t, what+" whose Parent is gone", imageOf(5, child, goneBlock(7, 2), dirBlock(7, 0, "b", 1)), impl.ErrState)
		checkLiveCode(t, what+" whose Parent is gone", imageOf(5, goneBlock(7, 3), child), impl.ErrState)
		checkLiveCode(t, what+" whose Parent is not sure yet", imageOf(5, child, dirBlock(7, 0, "b", 4)), impl.ErrState)
		checkLiveCode(t, what+" whose Parent is a piece", imageOf(5, child, pieceBlock(7, 0, 1)), impl.ErrState)
		checkTold(t, what+" whose Parent is there", imageOf(5, child, dirBlock(7, 0, "b", 3)), told{nodes: lines(1, 2)})
		checkTold(t, what+" whose Parent is there again", imageOf(5, goneBlock(7, 2), child, dirBlock(7, 0, "b", 3)), told{nodes: lines(2, 3), dead: lines(1)})
		checkTold(t, what+" that is not sure yet", imageOf(2, child), told{dead: lines(1)})
		checkTold(t, what+" that is gone", imageOf(9, child, goneBlock(5, 4)), told{dead: lines(1, 2)})
	}
}

func TestParentsInACircle(t *testing.T) {
	for many := int64(2); many <= 8; many++ {
		var circle [][]int64
		for uid := int64(1); uid <= many; uid++ {
			circle = append(circle, dirBlock(uid, uid%many+1, "a", 1))
		}
		checkLiveCode(t, "a circle", imageOf(5, circle...), impl.ErrState)
		checkLiveCode(t, "a circle beside a tree", imageOf(5, append(circle, dirBlock(20, 0, "b", 1), fileBlock(21, 20, "c", 0, 1))...), impl.ErrState)
		checkLiveCode(t, "a file in a circle", imageOf(5, append(circle, fileBlock(21, 1, "c", 0, 1))...), impl.ErrState)
		// One that is newer leads the circle to the root, and only a short one is not too deep.
		code := int64(impl.OK)
		if many > impl.MaxDepth {
			code = impl.ErrState
		}
		checkLiveCode(t, "a circle that was opened", imageOf(5, append(circle, dirBlock(1, 0, "a", 2))...), code)
	}
}

// chain: directories, each in the one ahead of it, the first one in the root.
func chain(many int64) [][]int64 {
	var blocks [][]int64
	for uid := int64(1); uid <= many; uid++ {
		blocks = append(blocks, dirBlock(uid, uid-1, "a", 1))
	}
	return blocks
}

func TestHowDeepANodeMayBe(t *testing.T) {
	checkTold(t, "directories of 4 steps", imageOf(5, chain(4)...), told{nodes: lines(1, 2, 3, 4)})
	checkTold(t, "a file of 4 steps", imageOf(5, append(chain(3), fileBlock(9, 3, "a", 0, 1))...), told{nodes: lines(1, 2, 3, 4)})
	checkTold(t, "two of 4 steps", imageOf(5, append(chain(4), fileBlock(9, 3, "b", 0, 1))...), told{nodes: lines(1, 2, 3, 4, 5)})
	checkLiveCode(t, "directories of 5 steps", imageOf(5, chain(5)...), impl.ErrState)
	checkLiveCode(t, "a file of 5 steps", imageOf(5, append(chain(4), fileBlock(9, 4, "a", 0, 1))...), impl.ErrState)
	for many := int64(6); many <= 38; many++ {
		checkLiveCode(t, "directories of more steps", imageOf(5, chain(many)...), impl.ErrState)
	}
	checkTold(t, "the fifth is not sure yet", imageOf(5, append(chain(4), dirBlock(5, 4, "a", 4))...), told{nodes: lines(1, 2, 3, 4), dead: lines(5)})
	checkTold(t, "the fifth was moved", imageOf(5, append(chain(5), dirBlock(5, 0, "b", 2))...), told{nodes: lines(1, 2, 3, 4, 6), dead: lines(5)})
	checkLiveCode(t, "what has four below it was moved down", imageOf(5, append(chain(4), dirBlock(9, 0, "b", 1), dirBlock(1, 9, "a", 2))...), impl.ErrState)
}

func TestTwoOfOneParentAndName(t *testing.T) {
	for parent := range int64(2) {
		up := dirBlock(1, 0, "up", 1)
		for _, first := range [][]int64{dirBlock(2, parent, "abc", 1), fileBlock(2, parent, "abc", 0, 2)} {
			checkLiveCode(t, "a directory of the same name", imageOf(5, up, first, dirBlock(3, parent, "abc", 3)), impl.ErrState)
			checkLiveCode(t, "a file of the same name", imageOf(5, fileBlock(3, parent, "abc", 0, 3), first, up), impl.ErrState)
			checkTold(t, "another name", imageOf(5, up, first, dirBlock(3, parent, "abd", 3)), told{nodes: lines(1, 2, 3)})
			checkTold(t, "another parent", imageOf(5, up, first, dirBlock(3, 1-parent, "abc", 3)), told{nodes: lines(1, 2, 3)})
			checkTold(t, "it is gone", imageOf(5, up, first, dirBlock(3, parent, "abc", 2), goneBlock(3, 3)), told{nodes: lines(1, 2), dead: lines(3, 4)})
			checkTold(t, "it has another name by now", imageOf(5, up, first, dirBlock(3, parent, "abc", 2), dirBlock(3, parent, "abd", 3)), told{nodes: lines(1, 2, 4), dead: lines(3)})
			checkTold(t, "it is not sure yet", imageOf(5, up, first, dirBlock(3, parent, "abc", 4)), told{nodes: lines(1, 2), dead: lines(3)})
		}
	}
	checkLiveCode(t, "two names of one kind beside many others", imageOf(5, append(chain(4), fileBlock(7, 3, "a", 0, 3))...), impl.ErrState)
}

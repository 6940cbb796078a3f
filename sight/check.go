package sight

import "mahlstick/api"

// isStreet reports whether a street is as defined.
func isStreet(s api.SightStreet) bool {
	return isFrom(1, s.Length, api.SightLength) && isFrom(1, s.Width, api.SightWidth) &&
		isSpan(s.Eye, 1, api.SightEye) && isSpan(s.Light, 1, api.SightLight) &&
		areBoards(s.Boards, s.Length) && areBlocks(s.Blocks, s.Length, s.Width)
}

// isFrom reports whether a number lies between two others, or is one of them.
func isFrom(least, n, most int) bool { return least <= n && n <= most }

// isSpan reports whether a span lies between two numbers, with ends in order.
func isSpan(x api.Span, least, most int) bool {
	return least <= x.Low && x.Low <= x.High && x.High <= most
}

func areBoards(boards []api.SightBoard, length int) bool {
	if !isFrom(1, len(boards), api.SightBoards) {
		return false
	}
	for _, board := range boards {
		if !isFrom(0, board.At, length) || !areLetters(board.Letters) {
			return false
		}
	}
	return true
}

func areLetters(letters []api.SightLetter) bool {
	if !isFrom(1, len(letters), api.SightLetters) {
		return false
	}
	for _, letter := range letters {
		if !isLetter(letter) {
			return false
		}
	}
	// nothing is after the last letter
	return letters[len(letters)-1].Space == 0
}

func isLetter(letter api.SightLetter) bool {
	return isFrom(1, letter.Height, api.SightSize) && isFrom(1, letter.Width, api.SightSize) &&
		isFrom(1, letter.Stroke, api.SightStroke) && isFrom(0, letter.Space, api.SightSpace)
}

func areBlocks(blocks []api.SightBlock, length, width int) bool {
	for _, block := range blocks {
		if !isSpan(block.Along, 0, length) || !isSpan(block.Across, 1, width) {
			return false
		}
	}
	return len(blocks) <= api.SightBlocks
}

// isBoard reports whether a number is that of a board of a street.
func isBoard(s api.SightStreet, board int) bool { return isFrom(0, board, len(s.Boards)-1) }

// isView reports whether a street is as defined, a number is that of one of its boards, and a place is in it.
func isView(s api.SightStreet, board int, from api.SightPlace) bool {
	return isStreet(s) && isBoard(s, board) && isFrom(0, from.Along, s.Length) && isFrom(1, from.Across, s.Width)
}

package sight

import (
	"mahlstick/api"
	"mahlstick/limits"
)

// isStreet reports whether a street is as defined.
func isStreet(s api.SightStreet) bool {
	return limits.IsFrom(1, s.Length, api.SightLength) && limits.IsFrom(1, s.Width, api.SightWidth) &&
		limits.IsSpan(1, s.Eye, api.SightEye) && limits.IsSpan(1, s.Light, api.SightLight) &&
		areBoards(s.Boards, s.Length) && areBlocks(s.Blocks, s.Length, s.Width)
}

func areBoards(boards []api.SightBoard, length int) bool {
	if !limits.IsFrom(1, len(boards), api.SightBoards) {
		return false
	}
	for _, board := range boards {
		if !limits.IsFrom(0, board.At, length) || !areLetters(board.Letters) {
			return false
		}
	}
	return true
}

func areLetters(letters []api.SightLetter) bool {
	if !limits.IsFrom(1, len(letters), api.SightLetters) {
		return false
	}
	for _, letter := range letters {
		if !isLetter(letter) {
			return false
		}
	}
	// nothing is after the last letter
	return letters[len(letters)-1].Space == 0
}

func isLetter(letter api.SightLetter) bool {
	return limits.IsFrom(1, letter.Height, api.SightSize) && limits.IsFrom(1, letter.Width, api.SightSize) &&
		limits.IsFrom(1, letter.Stroke, api.SightStroke) && limits.IsFrom(0, letter.Space, api.SightSpace)
}

func areBlocks(blocks []api.SightBlock, length, width int) bool {
	for _, block := range blocks {
		if !limits.IsSpan(0, block.Along, length) || !limits.IsSpan(1, block.Across, width) {
			return false
		}
	}
	return len(blocks) <= api.SightBlocks
}

// isBoard reports whether a number is that of a board of a street.
func isBoard(s api.SightStreet, board int) bool { return limits.IsFrom(0, board, len(s.Boards)-1) }

// isView reports whether a street is as defined, a number is that of one of its boards, and a place is in it.
func isView(s api.SightStreet, board int, from api.SightPlace) bool {
	return isStreet(s) && isBoard(s, board) && limits.IsFrom(0, from.Along, s.Length) && limits.IsFrom(1, from.Across, s.Width)
}

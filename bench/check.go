package bench

import (
	"mahlstick/api"
	"mahlstick/limits"
)

// isBench reports whether a bench is as defined.
func isBench(b api.BenchBook) bool {
	return limits.IsFrom(0, b.Apprentices, api.BenchHands) && areBoards(b.Boards) && areStrokes(b)
}

func areBoards(boards []int) bool {
	return limits.IsFrom(1, len(boards), api.BenchBoards) && limits.AreFrom(0, boards, api.BenchLast)
}

func areStrokes(b api.BenchBook) bool {
	if !limits.IsFrom(1, len(b.Strokes), api.BenchStrokes) {
		return false
	}
	for number, stroke := range b.Strokes {
		if !isBoardOf(b, stroke.Board) || !limits.IsSpan(1, stroke.Hours, api.BenchHours) || !limits.AreIncreasing(0, stroke.Needs, number-1) {
			return false
		}
	}
	return true
}

// isPlan reports whether a list is a plan of a bench.
func isPlan(b api.BenchBook, plan []int) bool {
	if len(plan) != len(b.Strokes) || !limits.AreFrom(0, plan, b.Apprentices) {
		return false
	}
	for stroke, hand := range plan {
		if !mayDo(b, stroke, hand) {
			return false
		}
	}
	return true
}

// mayDo reports whether a hand of a bench may do a stroke.
func mayDo(b api.BenchBook, stroke, hand int) bool { return hand == 0 || !b.Strokes[stroke].Round }

// isBoardOf reports whether a number is that of a board of a bench.
func isBoardOf(b api.BenchBook, board int) bool { return limits.IsFrom(0, board, len(b.Boards)-1) }

// isStrokeOf reports whether a number is that of a stroke of a bench.
func isStrokeOf(b api.BenchBook, stroke int) bool { return limits.IsFrom(0, stroke, len(b.Strokes)-1) }

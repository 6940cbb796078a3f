package leaf

import (
	"mahlstick/api"
	"mahlstick/limits"
)

// isJob reports whether a job is as defined.
func isJob(j api.LeafJob) bool {
	return limits.IsFrom(1, j.Wide, api.LeafSide) && limits.IsFrom(1, j.High, api.LeafSide) &&
		limits.IsFrom(1, j.Book, api.LeafBook) && limits.IsFrom(0, j.Spoilt, j.Book-1) &&
		areGrounds(j.Grounds) && arePieces(j.Pieces, len(j.Grounds))
}

func areGrounds(grounds []api.LeafGround) bool {
	for _, ground := range grounds {
		if !limits.IsSpan(0, ground.Ready, ground.Last.Low) || !limits.IsSpan(ground.Ready.High, ground.Last, api.LeafHours) {
			return false
		}
	}
	return limits.IsFrom(1, len(grounds), api.LeafGrounds)
}

func arePieces(pieces []api.LeafPiece, grounds int) bool {
	for _, piece := range pieces {
		if !limits.IsFrom(1, piece.Wide, api.LeafSide) || !limits.IsFrom(1, piece.High, api.LeafSide) || !limits.IsFrom(0, piece.Ground, grounds-1) {
			return false
		}
	}
	return limits.IsFrom(1, len(pieces), api.LeafPieces)
}

// isPieceOf reports whether a number is that of a piece of a job.
func isPieceOf(j api.LeafJob, piece int) bool { return limits.IsFrom(0, piece, len(j.Pieces)-1) }

// arePiecesOf reports whether a list is one of numbers of pieces of a job in increasing order.
func arePiecesOf(j api.LeafJob, pieces []int) bool {
	return limits.AreIncreasing(0, pieces, len(j.Pieces)-1)
}

package leaf_test

import (
	"cmp"
	"slices"

	"mahlstick/api"
)

// This file has the chapter's definitions once more, as slow and as plain as can be, and jobs on which both are compared.

// modelSizes returns the sizes, no larger than a rectangle, from which some pieces can be cut without a rest at one of the edges. If pieces can be cut from a rectangle, then also from one of these: those for the parts, beside each other or one above the other.
func modelSizes(pieces []api.LeafPiece, wide, high int) []api.LeafSize {
	var all []api.LeafSize
	add := func(w, h int) {
		if size := (api.LeafSize{Wide: w, High: h}); w <= wide && h <= high && !slices.Contains(all, size) {
			all = append(all, size)
		}
	}
	if len(pieces) == 1 {
		add(pieces[0].Wide, pieces[0].High)
		if pieces[0].Turn {
			add(pieces[0].High, pieces[0].Wide)
		}
		return all
	}
	for split := 1; split < 1<<(len(pieces)-1); split++ {
		var some, others []api.LeafPiece
		for i, p := range pieces {
			if split>>i&1 == 1 {
				some = append(some, p)
			} else {
				others = append(others, p)
			}
		}
		for _, a := range modelSizes(some, wide, high) {
			for _, b := range modelSizes(others, wide, high) {
				add(a.Wide+b.Wide, max(a.High, b.High))
				add(max(a.Wide, b.Wide), a.High+b.High)
			}
		}
	}
	return all
}

// modelFit reports whether some pieces of a job fit together.
func modelFit(j api.LeafJob, pieces []int) bool {
	var chosen []api.LeafPiece
	for _, n := range pieces {
		chosen = append(chosen, j.Pieces[n])
	}
	return len(pieces) == 0 || len(modelSizes(chosen, j.Wide, j.High)) > 0
}

// defined reports whether pieces can be cut from a rectangle, word for word as the chapter defines it.
func defined(pieces []api.LeafPiece, wide, high int) bool {
	if len(pieces) == 0 {
		return true
	}
	if p := pieces[0]; len(pieces) == 1 && (p.Wide <= wide && p.High <= high || p.Turn && p.High <= wide && p.Wide <= high) {
		return true
	}
	for choice := range 1 << len(pieces) {
		var some, others []api.LeafPiece
		for i, p := range pieces {
			if choice>>i&1 == 1 {
				some = append(some, p)
			} else {
				others = append(others, p)
			}
		}
		for at := 1; at < wide; at++ {
			if defined(some, at, high) && defined(others, wide-at, high) {
				return true
			}
		}
		for at := 1; at < high; at++ {
			if defined(some, wide, at) && defined(others, wide, high-at) {
				return true
			}
		}
	}
	return false
}

// lists returns all lists of so many numbers, each from the first to the second of two, in order.
func lists(of []api.Span) [][]int {
	all := [][]int{nil}
	for _, span := range of {
		var longer [][]int
		for _, list := range all {
			for n := span.Low; n <= span.High; n++ {
				longer = append(longer, append(slices.Clone(list), n))
			}
		}
		all = longer
	}
	return all
}

// subsets returns all lists of numbers up to one, in increasing order: those with fewer numbers first, and of as many the first one in lexicographic order.
func subsets(count int) [][]int {
	var all [][]int
	for choice := range 1 << count {
		var list []int
		for i := range count {
			if choice>>i&1 == 1 {
				list = append(list, i)
			}
		}
		all = append(all, list)
	}
	slices.SortFunc(all, func(a, b []int) int {
		return cmp.Or(cmp.Compare(len(a), len(b)), slices.Compare(a, b))
	})
	return all
}

// isCutting reports whether a list is a cutting of a job.
func isCutting(j api.LeafJob, list []int) bool {
	next := 0
	for _, leaf := range list {
		if leaf > next {
			return false
		}
		next = max(next, leaf+1)
	}
	for leaf := range next {
		var pieces []int
		for piece := range list {
			if list[piece] == leaf {
				pieces = append(pieces, piece)
			}
		}
		if !modelFit(j, pieces) {
			return false
		}
	}
	return true
}

// modelBest returns all cuttings of a job with the fewest leaves, in order, and how many leaves these have.
func modelBest(j api.LeafJob) ([][]int, int) {
	most := len(j.Pieces)
	byLeaves := make([][][]int, most+1)
	for _, list := range lists(slices.Repeat([]api.Span{span(0, most-1)}, most)) {
		if isCutting(j, list) {
			n := slices.Max(list) + 1
			byLeaves[n] = append(byLeaves[n], list)
		}
	}
	for n, all := range byLeaves {
		if len(all) > 0 {
			return all, n
		}
	}
	return nil, 0
}

// modelRest returns what Rest does, but for pieces that do not fit together.
func modelRest(j api.LeafJob, pieces []int) (api.LeafSize, api.Errno) {
	var result api.LeafSize
	for wide := range j.Wide + 1 {
		for high := range j.High + 1 {
			more := with(j, func(j *api.LeafJob) { j.Pieces = append(j.Pieces, api.LeafPiece{Wide: wide, High: high}) })
			if wide*high >= max(1, result.Wide*result.High) && modelFit(more, append(slices.Clone(pieces), len(j.Pieces))) {
				result = api.LeafSize{Wide: wide, High: high}
			}
		}
	}
	if result == (api.LeafSize{}) {
		return result, api.ErrNone
	}
	return result, api.OK
}

// hours returns the hours at which some pieces can surely be laid, or may be.
func hours(j api.LeafJob, pieces []int, sure bool) []api.Span {
	var all []api.Span
	for _, piece := range pieces {
		g := j.Grounds[j.Pieces[piece].Ground]
		if sure {
			all = append(all, span(g.Ready.High, g.Last.Low))
		} else {
			all = append(all, span(g.Ready.Low, g.Last.High))
		}
	}
	return all
}

// modelPlans returns all lists of hours for some pieces, none twice, at which they can surely be laid, or may be; in order.
func modelPlans(j api.LeafJob, pieces []int, sure bool) [][]int {
	return slices.DeleteFunc(lists(hours(j, pieces, sure)), func(plan []int) bool {
		once := slices.Compact(slices.Sorted(slices.Values(plan)))
		return len(once) < len(plan)
	})
}

// everyone returns the numbers of all pieces of a job, without some.
func everyone(j api.LeafJob, without ...int) []int {
	var all []int
	for piece := range j.Pieces {
		if !slices.Contains(without, piece) {
			all = append(all, piece)
		}
	}
	return all
}

// modelProof returns what Proof does.
func modelProof(j api.LeafJob) (api.Span, []int, api.Errno) {
	for count := 1; count <= api.LeafHours+1; count++ {
		for low := 0; low+count-1 <= api.LeafHours; low++ {
			var pieces []int
			for piece, can := range hours(j, everyone(j), true) {
				if can.Low >= low && can.High <= low+count-1 {
					pieces = append(pieces, piece)
				}
			}
			if len(pieces) > count {
				return span(low, low+count-1), pieces, api.OK
			}
		}
	}
	return api.Span{}, nil, api.ErrNone
}

// dice is a row of numbers that look random and are the same each time.
type dice uint64

// upTo returns a number from 0 to one that is given.
func (d *dice) upTo(most int) int {
	*d = *d*6364136223846793005 + 1442695040888963407
	return int(uint64(*d) >> 33 % uint64(most+1))
}

// job returns a job as defined with leaves of so many at most, so many pieces at most, and grounds at so many hours at most.
func (d *dice) job(side, pieces, hours int) api.LeafJob {
	j := api.LeafJob{Wide: 1 + d.upTo(side-1), High: 1 + d.upTo(side-1), Book: 1 + d.upTo(api.LeafBook-1)}
	j.Spoilt = d.upTo(j.Book - 1)
	for range 1 + d.upTo(api.LeafGrounds-1) {
		ends := []int{d.upTo(hours), d.upTo(hours), d.upTo(hours), d.upTo(hours)}
		slices.Sort(ends)
		j.Grounds = append(j.Grounds, ground(ends[0], ends[1], ends[2], ends[3]))
	}
	// some are too large for a leaf
	large := max(1, min(side, (side+j.Wide)/2))
	for range 1 + d.upTo(pieces-1) {
		p := api.LeafPiece{Wide: 1 + d.upTo(large-1), High: 1 + d.upTo(large-1), Turn: d.upTo(2) == 0, Ground: d.upTo(len(j.Grounds) - 1)}
		if d.upTo(3) > 0 {
			p.Wide, p.High = min(p.Wide, j.Wide), min(p.High, j.High)
		}
		j.Pieces = append(j.Pieces, p)
	}
	return j
}

// any returns a job of any size.
func (d *dice) any() api.LeafJob { return d.job(api.LeafSide, api.LeafPieces, 3+d.upTo(4)) }

func span(low, high int) api.Span { return api.Span{Low: low, High: high} }

// ground returns a ground with a span of hours in which it gets ready, and one of the last ones.
func ground(ready, surely, last, perhaps int) api.LeafGround {
	return api.LeafGround{Ready: span(ready, surely), Last: span(last, perhaps)}
}

// clone returns a job that shares no memory with another one.
func clone(j api.LeafJob) api.LeafJob {
	j.Grounds, j.Pieces = slices.Clone(j.Grounds), slices.Clone(j.Pieces)
	return j
}

// with returns a job with a change.
func with(j api.LeafJob, change func(*api.LeafJob)) api.LeafJob {
	j = clone(j)
	change(&j)
	return j
}

func sameJob(a, b api.LeafJob) bool {
	return a.Wide == b.Wide && a.High == b.High && a.Book == b.Book && a.Spoilt == b.Spoilt && slices.Equal(a.Grounds, b.Grounds) && slices.Equal(a.Pieces, b.Pieces)
}

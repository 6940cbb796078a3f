package bench

import (
	"slices"

	"mahlstick/api"
)

// The numbers of the hours that strokes can take.
const (
	least = iota
	greatest
)

// ending is that of a stroke with some hours.
type ending struct{ stroke, hours int }

// A planned bench is one with a plan and its hours.
type planned struct {
	api.BenchBook
	plan []int
	ends map[ending]int // at which hours strokes end, as far as it was asked for
}

// planOf returns a bench with a plan.
func planOf(b api.BenchBook, plan []int) planned {
	return planned{BenchBook: b, plan: plan, ends: map[ending]int{}}
}

// least returns how long a stroke takes at least.
func (x planned) least(stroke int) int { return x.Strokes[stroke].Hours.Low }

// greatest returns how long it takes at most.
func (x planned) greatest(stroke int) int { return x.Strokes[stroke].Hours.High }

// lastOf returns the last one of some hours, or the hour 0 if there are none.
func lastOf(hours ...int) int {
	latest := 0
	for _, hour := range hours {
		latest = max(latest, hour)
	}
	return latest
}

// endsOf returns when some strokes end with some hours.
func (x planned) endsOf(strokes []int, hours int) []int {
	var ends []int
	for _, stroke := range strokes {
		ends = append(ends, x.end(stroke, hours))
	}
	return ends
}

// end returns when a stroke ends with some hours.
func (x planned) end(stroke, hours int) int {
	key := ending{stroke, hours}
	end, known := x.ends[key]
	if !known {
		howLong := [...]func(planned, int) int{least: planned.least, greatest: planned.greatest}
		end = x.begin(stroke, hours) + howLong[hours](x, stroke)
		x.ends[key] = end
	}
	return end
}

// begin returns when a stroke begins with some hours.
func (x planned) begin(stroke, hours int) int {
	return lastOf(x.free(stroke, hours), lastOf(x.endsOf(x.Strokes[stroke].Needs, hours)...))
}

// free returns when the hand of a stroke has done the one before it.
func (x planned) free(stroke, hours int) int {
	for before := stroke - 1; before >= 0; before-- {
		if x.plan[before] == x.plan[stroke] {
			return x.end(before, hours)
		}
	}
	return 0
}

// span returns when the last one of some strokes ends at the soonest, and at the latest.
func (x planned) span(strokes ...int) api.Span {
	return api.Span{Low: lastOf(x.endsOf(strokes, least)...), High: lastOf(x.endsOf(strokes, greatest)...)}
}

// done returns when a board is done at the soonest, and at the latest.
func (x planned) done(board int) api.Span {
	var its []int
	for number, stroke := range x.Strokes {
		if stroke.Board == board {
			its = append(its, number)
		}
	}
	return x.span(its...)
}

// late returns whether a board is late.
func (x planned) late(board int) api.BenchWord {
	done, due := x.done(board), x.Boards[board]
	switch {
	case done.Low > due:
		return api.BenchSurely
	case done.High > due:
		return api.BenchMay
	default:
		return api.BenchNever
	}
}

// takes returns how long the plan takes.
func (x planned) takes() int {
	latest := 0
	for stroke := range x.Strokes {
		latest = lastOf(latest, x.end(stroke, greatest))
	}
	return latest
}

// waits returns how many hours the hand of a stroke waits before it.
func (x planned) waits(stroke int) int { return x.begin(stroke, greatest) - x.free(stroke, greatest) }

// found is the panic of a search for the first chain, with what it has found.
type found struct{ chain []int }

// firstChain returns the first chain.
func (x planned) firstChain() (chain []int) {
	defer func() {
		if it, is := recover().(found); is {
			chain = it.chain
		}
	}()
	x.seek(nil)
	return nil
}

// seek gives up with the first chain that has some strokes at its beginning, or returns if there is none.
func (x planned) seek(beginning []int) {
	for stroke := range x.Strokes {
		if !x.mayFollow(beginning, stroke) {
			continue
		}
		chain := append(slices.Clone(beginning), stroke)
		if x.end(stroke, greatest) == x.takes() {
			panic(found{chain})
		}
		x.seek(chain)
	}
}

// mayFollow reports whether a stroke can be next in a chain, after some others.
func (x planned) mayFollow(chain []int, stroke int) bool {
	begin := x.begin(stroke, greatest)
	if len(chain) == 0 {
		return begin == 0
	}
	before := chain[len(chain)-1]
	return begin == x.end(before, greatest) && (slices.Contains(x.Strokes[stroke].Needs, before) || x.plan[stroke] == x.plan[before])
}

// spare returns by how many hours a stroke can take longer, so that all is not done later.
func (x planned) spare(stroke int) int {
	spare := 0
	for spare < api.BenchSpare && x.longer(stroke, spare+1).takes() == x.takes() {
		spare++
	}
	return spare
}

// longer returns the same plan of a bench whose stroke can take some hours more.
func (x planned) longer(stroke, hours int) planned {
	b := x.BenchBook
	b.Strokes = slices.Clone(b.Strokes)
	b.Strokes[stroke].Hours.High += hours
	return planOf(b, x.plan)
}

package sight_test

import (
	"slices"

	"mahlstick/api"
)

// This file has the chapter's definitions once more, as slow and as plain as can be, and streets on which both are compared.

// point is a place in a street, or one on the wall.
type point struct{ x, y int }

// turn returns 1 if the way from a over b to c turns to one side, -1 if it turns to the other one, and 0 if it does not turn.
func turn(a, b, c point) int {
	n := (b.x-a.x)*(c.y-a.y) - (b.y-a.y)*(c.x-a.x)
	switch {
	case n > 0:
		return 1
	case n < 0:
		return -1
	}
	return 0
}

// within reports whether a point lies in a rectangle between two others, border included.
func within(p, a, b point) bool {
	return min(a.x, b.x) <= p.x && p.x <= max(a.x, b.x) && min(a.y, b.y) <= p.y && p.y <= max(a.y, b.y)
}

// cross reports whether two straight lines meet, ends included.
func cross(a, b, c, d point) bool {
	if turn(a, b, c)*turn(a, b, d) < 0 && turn(c, d, a)*turn(c, d, b) < 0 {
		return true
	}
	return turn(a, b, c) == 0 && within(c, a, b) || turn(a, b, d) == 0 && within(d, a, b) ||
		turn(c, d, a) == 0 && within(a, c, d) || turn(c, d, b) == 0 && within(b, c, d)
}

// modelHides reports whether a block hides a board: whether the place is in it, or the line meets one of its sides.
func modelHides(block api.SightBlock, at int, from api.SightPlace) bool {
	board, place := point{at, 0}, point{from.Along, from.Across}
	corners := []point{{block.Along.Low, block.Across.Low}, {block.Along.High, block.Across.Low}, {block.Along.High, block.Across.High}, {block.Along.Low, block.Across.High}}
	if within(place, corners[0], corners[2]) {
		return true
	}
	for i := range corners {
		if cross(board, place, corners[i], corners[(i+1)%4]) {
			return true
		}
	}
	return false
}

func modelFar(b api.SightBoard, from api.SightPlace) int {
	return (from.Along-b.At)*(from.Along-b.At) + from.Across*from.Across
}

func modelTall(b api.SightBoard, i int, from api.SightPlace, eye, light int) bool {
	n := b.Letters[i].Height * eye * light
	return n*n >= 10000*modelFar(b, from)
}

func modelBroad(b api.SightBoard, i int, from api.SightPlace, eye, light int) bool {
	return b.Letters[i].Width*eye*light*from.Across >= 100*modelFar(b, from)
}

func modelThick(b api.SightBoard, i int, from api.SightPlace, eye, light int) bool {
	n := 5 * b.Letters[i].Stroke * eye * light
	return n*n >= 10000*modelFar(b, from)
}

func modelMelt(b api.SightBoard, i int, from api.SightPlace, eye, light int) bool {
	return 5*b.Letters[i].Space*eye*light*from.Across < 100*modelFar(b, from)
}

func modelLetter(b api.SightBoard, i int, from api.SightPlace, eye, light int) bool {
	return modelTall(b, i, from, eye, light) && modelBroad(b, i, from, eye, light) && modelThick(b, i, from, eye, light)
}

// modelRead reports whether a board is read with an eye, a light, and some blocks.
func modelRead(b api.SightBoard, from api.SightPlace, eye, light int, blocks []api.SightBlock) bool {
	for i := range b.Letters {
		if !modelLetter(b, i, from, eye, light) || i+1 < len(b.Letters) && modelMelt(b, i, from, eye, light) {
			return false
		}
	}
	for _, block := range blocks {
		if modelHides(block, b.At, from) {
			return false
		}
	}
	return true
}

// modelSure returns the blocks that are sure.
func modelSure(s api.SightStreet) []api.SightBlock {
	return slices.DeleteFunc(slices.Clone(s.Blocks), func(b api.SightBlock) bool { return !b.Sure })
}

// modelSurely reports whether a board is surely read.
func modelSurely(s api.SightStreet, b api.SightBoard, from api.SightPlace) bool {
	return modelRead(b, from, s.Eye.Low, s.Light.Low, s.Blocks)
}

func modelSeen(s api.SightStreet, b api.SightBoard, from api.SightPlace) api.SightWord {
	switch {
	case modelSurely(s, b, from):
		return api.SightSurely
	case modelRead(b, from, s.Eye.High, s.Light.High, modelSure(s)):
		return api.SightMay
	}
	return api.SightNever
}

// modelWord returns how sure it is that something is so, by trying all eyes and lights.
func modelWord(s api.SightStreet, is func(eye, light int) bool) api.SightWord {
	yes, no := 0, 0
	for eye := s.Eye.Low; eye <= s.Eye.High; eye++ {
		for light := s.Light.Low; light <= s.Light.High; light++ {
			if is(eye, light) {
				yes++
			} else {
				no++
			}
		}
	}
	switch {
	case no == 0:
		return api.SightSurely
	case yes > 0:
		return api.SightMay
	}
	return api.SightNever
}

// modelFaults returns all faults of a board, in order.
func modelFaults(s api.SightStreet, b api.SightBoard, from api.SightPlace) []api.SightFault {
	var all []api.SightFault
	add := func(is bool, kind api.SightKind, i int) {
		if is {
			all = append(all, api.SightFault{Kind: kind, Number: i})
		}
	}
	eye, light := s.Eye.Low, s.Light.Low
	for i, block := range s.Blocks {
		add(modelHides(block, b.At, from), api.SightHidden, i)
	}
	for i := range b.Letters {
		add(!modelTall(b, i, from, eye, light), api.SightLow, i)
		add(!modelBroad(b, i, from, eye, light), api.SightNarrow, i)
		add(!modelThick(b, i, from, eye, light), api.SightThin, i)
		add(i+1 < len(b.Letters) && modelMelt(b, i, from, eye, light), api.SightMelted, i)
	}
	slices.SortStableFunc(all, func(a, b api.SightFault) int { return int(a.Kind) - int(b.Kind) })
	return all
}

// modelPlaces returns all places of a street, in order.
func modelPlaces(s api.SightStreet) []api.SightPlace {
	var all []api.SightPlace
	for along := 0; along <= s.Length; along++ {
		for across := 1; across <= s.Width; across++ {
			all = append(all, place(along, across))
		}
	}
	return all
}

// modelCount returns from how many places a board is surely read.
func modelCount(s api.SightStreet, b api.SightBoard) int {
	n := 0
	for _, from := range modelPlaces(s) {
		if modelSurely(s, b, from) {
			n++
		}
	}
	return n
}

// modelTimes returns a board with letters that are so many times as large.
func modelTimes(b api.SightBoard, times int) api.SightBoard {
	b.Letters = slices.Clone(b.Letters)
	for i := range b.Letters {
		b.Letters[i].Height *= times
		b.Letters[i].Width *= times
		b.Letters[i].Stroke *= times
		b.Letters[i].Space *= times
	}
	return b
}

// dice is a row of numbers that look random and are the same each time.
type dice uint64

// upTo returns a number from 0 to one that is given.
func (d *dice) upTo(most int) int {
	*d = *d*6364136223846793005 + 1442695040888963407
	return int(uint64(*d) >> 33 % uint64(most+1))
}

// span returns a span between two numbers.
func (d *dice) span(least, most int) api.Span {
	low := least + d.upTo(most-least)
	return api.Span{Low: low, High: low + d.upTo(most-low)}
}

func (d *dice) board(length int) api.SightBoard {
	b := api.SightBoard{At: d.upTo(length)}
	least := 1 + d.upTo(19)
	for range 1 + d.upTo(d.upTo(api.SightLetters-1)) {
		b.Letters = append(b.Letters, api.SightLetter{Height: least + d.upTo(10), Width: least + d.upTo(10), Stroke: 1 + d.upTo((least+10)/5), Space: 1 + d.upTo(d.upTo(api.SightSpace-1))})
	}
	b.Letters[len(b.Letters)-1].Space = 0
	return b
}

// street returns a street as defined, the boards of which are often read from some places, and not from others.
func (d *dice) street() api.SightStreet {
	s := api.SightStreet{Length: 1 + d.upTo(15), Width: 1 + d.upTo(7), Eye: d.span(1, 12), Light: d.span(1, 60)}
	if d.upTo(3) == 0 {
		s.Length, s.Width = 1+d.upTo(api.SightLength-1), 1+d.upTo(api.SightWidth-1)
	}
	for range 1 + d.upTo(api.SightBoards-1) {
		s.Boards = append(s.Boards, d.board(s.Length))
	}
	for range d.upTo(d.upTo(api.SightBlocks)) {
		along, across := d.upTo(s.Length), 1+d.upTo(s.Width-1)
		s.Blocks = append(s.Blocks, api.SightBlock{
			Along:  span(along, min(s.Length, along+d.upTo(2))),
			Across: span(across, min(s.Width, across+d.upTo(2))),
			Sure:   d.upTo(1) == 0,
		})
	}
	return s
}

// view returns a street, one of its boards, and a place in it.
func (d *dice) view() (api.SightStreet, int, api.SightPlace) {
	s := d.street()
	return s, d.upTo(len(s.Boards) - 1), place(d.upTo(s.Length), 1+d.upTo(s.Width-1))
}

// clone returns a street that shares no memory with another one.
func clone(s api.SightStreet) api.SightStreet {
	s.Boards = slices.Clone(s.Boards)
	for i, b := range s.Boards {
		s.Boards[i].Letters = slices.Clone(b.Letters)
	}
	s.Blocks = slices.Clone(s.Blocks)
	return s
}

func sameStreet(a, b api.SightStreet) bool {
	return a.Length == b.Length && a.Width == b.Width && a.Eye == b.Eye && a.Light == b.Light &&
		slices.EqualFunc(a.Boards, b.Boards, func(x, y api.SightBoard) bool {
			return x.At == y.At && slices.Equal(x.Letters, y.Letters)
		}) && slices.Equal(a.Blocks, b.Blocks)
}

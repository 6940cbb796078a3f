package sight

import "mahlstick/api"

const (
	// sharpness is how much greater than the distance a size must be, times the power of an eye and a light.
	sharpness = 100
	// fineness is how many strokes, or spaces, are as good as a size.
	fineness = 5
)

// A view is a street with a place in it, from which a board is looked at.
type view struct {
	api.SightStreet // with those blocks alone that stand there
	api.SightPlace
	board api.SightBoard
	power int // an eye times a light
}

// atWorst returns a view with the least eye and the least light, and with all blocks.
func atWorst(s api.SightStreet, b api.SightBoard, from api.SightPlace) view {
	return view{s, from, b, s.Eye.Low * s.Light.Low}
}

// atBest returns a view with the greatest eye and the greatest light, and with the sure blocks alone.
func atBest(s api.SightStreet, b api.SightBoard, from api.SightPlace) view {
	var staying []api.SightBlock
	for _, block := range s.Blocks {
		if block.Sure {
			staying = append(staying, block)
		}
	}
	s.Blocks = staying
	return view{s, from, b, s.Eye.High * s.Light.High}
}

// seen returns whether a board is read from a place.
func seen(s api.SightStreet, b api.SightBoard, from api.SightPlace) api.SightWord {
	if isSurelyRead(s, b, from) {
		return api.SightSurely
	}
	if atBest(s, b, from).isRead() {
		return api.SightMay
	}
	return api.SightNever
}

// isSurelyRead reports whether a board is surely read from a place.
func isSurelyRead(s api.SightStreet, b api.SightBoard, from api.SightPlace) bool {
	return atWorst(s, b, from).isRead()
}

// squares returns the sum of the squares of some numbers.
func squares(numbers ...int) int {
	sum := 0
	for _, n := range numbers {
		sum += n * n
	}
	return sum
}

// far returns the distance of the board, squared.
func (v view) far() int { return squares(v.Along-v.board.At, v.Across) }

// reaches reports whether something so high is seen from the place; how it is turned to the place does not matter.
func (v view) reaches(height int) bool {
	return squares(height*v.power) >= squares(sharpness)*v.far()
}

// spreads reports whether something so wide is seen from the place, at the angle at which the board is looked at.
func (v view) spreads(width int) bool {
	return width*v.power*v.Across >= sharpness*v.far()
}

func (v view) isTall(letter int) bool  { return v.reaches(v.board.Letters[letter].Height) }
func (v view) isBroad(letter int) bool { return v.spreads(v.board.Letters[letter].Width) }
func (v view) isThick(letter int) bool { return v.reaches(fineness * v.board.Letters[letter].Stroke) }

// isApart reports whether a letter does not melt into the next one.
func (v view) isApart(letter int) bool { return v.spreads(fineness * v.board.Letters[letter].Space) }

// needs returns what a letter must be, in the order of the kinds of faults that it else has, from api.SightLow on.
func needs() [3]func(view, int) bool {
	return [...]func(view, int) bool{view.isTall, view.isBroad, view.isThick}
}

// isLegible reports whether a letter is read.
func (v view) isLegible(letter int) bool {
	for _, is := range needs() {
		if !is(v, letter) {
			return false
		}
	}
	return true
}

// isBehind reports whether a block hides the board.
func (v view) isBehind(block api.SightBlock) bool {
	if block.Across.Low > v.Across {
		return false
	}
	low, high := v.lineAt(block.Across.Low), v.lineAt(min(block.Across.High, v.Across))
	return min(low, high) <= block.Along.High*v.Across && max(low, high) >= block.Along.Low*v.Across
}

// lineAt returns where along the wall the line from the board to the place is, so far across the street. It is multiplied by how far across the place is, so that it is a whole number.
func (v view) lineAt(across int) int {
	return v.board.At*v.Across + (v.Along-v.board.At)*across
}

// fault is the panic of a fault that was found.
type fault struct{ api.SightFault }

// must gives up with a fault if something is not so that must be so for a board to be read.
func must(is bool, kind api.SightKind, number int) {
	if !is {
		panic(fault{api.SightFault{Kind: kind, Number: number}})
	}
}

// firstFault returns the first fault of the board, or false if it has none.
func (v view) firstFault() (first api.SightFault, faulty bool) {
	defer func() {
		if found, is := recover().(fault); is {
			first, faulty = found.SightFault, true
		}
	}()
	for number, block := range v.Blocks {
		must(!v.isBehind(block), api.SightHidden, number)
	}
	for i, is := range needs() {
		for letter := range v.board.Letters {
			must(is(v, letter), api.SightLow+api.SightKind(i), letter)
		}
	}
	for letter := range len(v.board.Letters) - 1 {
		must(v.isApart(letter), api.SightMelted, letter)
	}
	return api.SightFault{}, false
}

// isRead reports whether the board is read.
func (v view) isRead() bool {
	_, faulty := v.firstFault()
	return !faulty
}

// howSure returns how sure it is that something is so, by all eyes and lights of the street.
func (v view) howSure(is func(view) bool) api.SightWord {
	always, once := true, false
search:
	for better := range v.Eye.High - v.Eye.Low + 1 {
		for lighter := range v.Light.High - v.Light.Low + 1 {
			v.power = (v.Eye.Low + better) * (v.Light.Low + lighter)
			now := is(v)
			always, once = always && now, once || now
			if once && !always {
				break search
			}
		}
	}
	switch {
	case always:
		return api.SightSurely
	case once:
		return api.SightMay
	default:
		return api.SightNever
	}
}

package daybook

import (
	"strings"

	"mahlstick/api"
	"mahlstick/limits"
	"mahlstick/lines"
)

// digits is how many digits a number of a line has at most; all numbers of as many are at most api.DaybookNumber.
const digits = 4

// The numbers of the tables that the document has: of entries, and of questions.
const (
	entries = iota
	questions
)

// A row is one of a table: the word with which its lines begin, and how many numbers follow it.
type row struct {
	word        string
	least, most int
}

// has reports whether as many numbers follow the word of the row.
func (r row) has(numbers []int) bool { return limits.IsFrom(r.least, len(numbers), r.most) }

// tables returns the rows of both tables by the numbers of their kinds; there is no kind 0.
func tables() [2][]row {
	return [2][]row{
		entries: {
			api.DaybookWait:  {"wait", 1, 1},
			api.DaybookCoat:  {"coat", 0, 0},
			api.DaybookDry:   {"dry", 3, 3},
			api.DaybookSpot:  {"spot", 1, 5},
			api.DaybookMix:   {"mix", 1, 4},
			api.DaybookFill:  {"fill", 2, 2},
			api.DaybookGive:  {"give", 2, 2},
			api.DaybookDone:  {"done", 1, 1},
			api.DaybookHours: {"hours", 2, 2},
			api.DaybookDeal:  {"deal", 1, 1},
			api.DaybookPay:   {"pay", 2, 2},
			api.DaybookFront: {"front", 1, 1},
			api.DaybookUndo:  {"undo", 0, 0},
		},
		questions: {
			api.DaybookDay:    {"day", 0, 0},
			api.DaybookSet:    {"set", 0, 0},
			api.DaybookPlan:   {"plan", 0, 0},
			api.DaybookLaid:   {"laid", 0, 0},
			api.DaybookOrder:  {"order", 0, 0},
			api.DaybookBefore: {"before", 2, 2},
			api.DaybookLeft:   {"stock", 1, 1},
			api.DaybookWord:   {"word", 1, 4},
			api.DaybookHand:   {"hand", 1, 1},
			api.DaybookReady:  {"ready", 0, 0},
			api.DaybookEnds:   {"ends", 0, 0},
			api.DaybookBest:   {"best", 0, 0},
			api.DaybookOwes:   {"owes", 1, 1},
			api.DaybookPaid:   {"paid", 1, 1},
			api.DaybookSame:   {"same", 2, 2},
			api.DaybookStands: {"stands", 0, 0},
		},
	}
}

// write returns the line of an entry that is formed.
func write(x api.DaybookEntry) string {
	line := tables()[entries][x.Kind].word
	if len(x.Numbers) == 0 {
		return line
	}
	return line + " " + lines.Join(" ", x.Numbers...)
}

// A request is what a line says: the kind of an entry or of a question, by its table, and as many numbers as its row has.
type request struct {
	table, kind int
	numbers     []int
}

// parse returns what a line says, or false if it is neither the line of an entry that is formed nor that of a question.
func parse(line string) (x request, found bool) {
	words := strings.Split(line, " ")
	numbers, ok := numbersOf(words[1:])
	if !ok {
		return request{}, false
	}
search:
	for table, rows := range tables() {
		for kind := 1; kind < len(rows); kind++ {
			if rows[kind].word == words[0] && rows[kind].has(numbers) {
				x, found = request{table, kind, numbers}, true
				break search
			}
		}
	}
	return x, found
}

// numbersOf returns the numbers that some words of a line are, or false if one is none.
func numbersOf(words []string) ([]int, bool) {
	var numbers []int
	for _, word := range words {
		number, ok := lines.Number(word, digits)
		if !ok {
			return nil, false
		}
		numbers = append(numbers, number)
	}
	return numbers, true
}

// entry returns the entry that a line says.
func (x request) entry() api.DaybookEntry {
	return api.DaybookEntry{Kind: api.DaybookKind(x.kind), Numbers: x.numbers}
}

// question returns the question that a line says.
func (x request) question() api.DaybookQuestion {
	return api.DaybookQuestion{Kind: api.DaybookTopic(x.kind), Numbers: x.numbers}
}

package daybook

import (
	"mahlstick/api"
	"mahlstick/limits"
	"mahlstick/tint"
)

// An entry is one that is formed, with what its numbers are.
type entry interface {
	// mustGo gives up if the entry does not go after those that stand.
	mustGo(x *season)
}

type (
	waitEntry struct{ days int }
	coatEntry struct{}
	dryEntry  struct {
		day int
		dry api.Span
	}
	spotEntry  struct{ names []int }
	mixEntry   struct{ parts []int }
	fillEntry  struct{ tin, parts int }
	giveEntry  struct{ stroke, hand int }
	doneEntry  struct{ stroke int }
	hoursEntry struct{ board, hours int }
	dealEntry  struct{ tariff int }
	payEntry   struct{ owner, coins int }
	frontEntry struct{ wide int }
	undoEntry  struct{}
)

// entryOf returns an entry that is formed, with what its numbers are.
func entryOf(x api.DaybookEntry) entry {
	n := x.Numbers
	switch x.Kind {
	case api.DaybookWait:
		return waitEntry{n[0]}
	case api.DaybookCoat:
		return coatEntry{}
	case api.DaybookDry:
		return dryEntry{n[0], api.Span{Low: n[1], High: n[2]}}
	case api.DaybookSpot:
		return spotEntry{n}
	case api.DaybookMix:
		return mixEntry{n}
	case api.DaybookFill:
		return fillEntry{n[0], n[1]}
	case api.DaybookGive:
		return giveEntry{n[0], n[1]}
	case api.DaybookDone:
		return doneEntry{n[0]}
	case api.DaybookHours:
		return hoursEntry{n[0], n[1]}
	case api.DaybookDeal:
		return dealEntry{n[0]}
	case api.DaybookPay:
		return payEntry{n[0], n[1]}
	case api.DaybookFront:
		return frontEntry{n[0]}
	default:
		return undoEntry{}
	}
}

// doesNotGo is the panic of an entry that does not go.
type doesNotGo struct{}

// must gives up if something is not so that must be so for an entry to go.
func must(is bool) {
	if !is {
		panic(doesNotGo{})
	}
}

// goes reports whether an entry goes after those that stand.
func (x *season) goes(e entry) (ok bool) {
	defer func() {
		if _, not := recover().(doesNotGo); not {
			ok = false
		}
	}()
	e.mustGo(x)
	return true
}

// mustHave gives up if a list has no thing of a number.
func mustHave[T any](list []T, number int) { must(has(list, number)) }

// has reports whether a list has a thing of a number.
func has[T any](list []T, number int) bool { return limits.IsFrom(0, number, len(list)-1) }

func (e waitEntry) mustGo(x *season) {
	must(e.days >= 1)
	day := x.day + e.days
	mustHave(x.Coats.Dry, day)
	// days increase in a plan, so that no other coat has a day before that of the next one
	next, some := x.nextCoat()
	must(!some || day <= next)
}

func (e coatEntry) mustGo(x *season) {
	next, some := x.nextCoat()
	must(some && next == x.day)
}

func (e dryEntry) mustGo(x *season) {
	mustHave(x.Coats.Dry, e.day)
	must(e.day >= x.firstOpenDay())
	_, _, mended := x.foreseen(e.day, e.dry)
	must(mended)
}

func (e spotEntry) mustGo(x *season) { must(hasOrder(x.withSpot(e.names))) }

func (e mixEntry) mustGo(x *season) {
	word, err := tint.Word(x.Tints, e.parts)
	must(err == api.OK && word != api.TintNever)
	for tin, parts := range e.parts {
		must(parts <= x.Stock[tin])
	}
}

func (e fillEntry) mustGo(x *season) {
	mustHave(x.Stock, e.tin)
	must(e.parts >= 1 && x.Stock[e.tin]+e.parts <= api.DaybookStock)
}

func (e giveEntry) mustGo(x *season) {
	mustHave(x.hands, e.stroke)
	must(x.hands[e.stroke] == none && e.hand <= x.Bench.Apprentices)
	// the master's hand is 0
	must(e.hand == 0 || !x.Bench.Strokes[e.stroke].Round)
}

func (e doneEntry) mustGo(x *season) {
	mustHave(x.hands, e.stroke)
	must(x.canBeDone(e.stroke))
}

func (e hoursEntry) mustGo(x *season) {
	mustHave(x.hours, e.board)
	its := x.Prices.Boards[e.board].Hours
	must(x.hours[e.board] == none && limits.IsFrom(its.Low, e.hours, its.High) && x.isPainted(e.board))
}

func (e dealEntry) mustGo(x *season) {
	mustHave(x.Prices.Tariffs, e.tariff)
	must(x.tariff == none)
}

func (e payEntry) mustGo(x *season) {
	owed, known := x.owed()
	must(known)
	mustHave(owed, e.owner)
	must(e.coins >= 1 && x.paid[e.owner]+e.coins <= owed[e.owner])
}

func (e frontEntry) mustGo(x *season) { must(fits(x.withFront(e.wide))) }

func (e undoEntry) mustGo(x *season) { must(len(x.stands) > 0) }

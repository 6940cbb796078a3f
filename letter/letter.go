// Package letter sets names on fronts: rows, spaces, words that must be left out, letters that are too many. It is layer 1 of the document.
package letter

import (
	"slices"

	"mahlstick/api"
	"mahlstick/best"
)

// Check returns ErrArg for a sheet that is not as defined.
func Check(s api.LetterSheet) api.Errno {
	if !isSheet(s) {
		return api.ErrArg
	}
	return api.OK
}

// Widths returns how wide all rows of a setting are with a stretch.
func Widths(s api.LetterSheet, x api.LetterSetting, stretch int) ([]int, api.Errno) {
	if !isSheet(s) || !isSetting(s, x) || !isStretch(stretch) {
		return nil, api.ErrArg
	}
	return lay(s, x, stretch).rowWidths(), api.OK
}

// Fits reports whether a setting fits with a stretch.
func Fits(s api.LetterSheet, x api.LetterSetting, stretch int) (bool, api.Errno) {
	if !isSheet(s) || !isSetting(s, x) || !isStretch(stretch) {
		return false, api.ErrArg
	}
	return lay(s, x, stretch).fits(), api.OK
}

// Stretch returns the greatest stretch with which a setting fits, or ErrNone.
func Stretch(s api.LetterSheet, x api.LetterSetting) (int, api.Errno) {
	if !isSheet(s) || !isSetting(s, x) {
		return 0, api.ErrArg
	}
	l, fits := lay(s, x, 0).widest()
	if !fits {
		return 0, api.ErrNone
	}
	return l.stretch, api.OK
}

// Places returns, for each row of a setting with a stretch, where its letters begin.
func Places(s api.LetterSheet, x api.LetterSetting, stretch int) ([][]int, api.Errno) {
	if !isSheet(s) || !isSetting(s, x) || !isStretch(stretch) {
		return nil, api.ErrArg
	}
	return lay(s, x, stretch).places(), api.OK
}

// Rows returns the fewest rows in which the whole name fits, or ErrNone.
func Rows(s api.LetterSheet) (int, api.Errno) {
	x, _, e := Set(s)
	return len(x.Ends), e
}

// Set returns the setting of the whole name with the fewest rows and, of these, the widest spaces, and its stretch; or ErrNone.
func Set(s api.LetterSheet) (api.LetterSetting, int, api.Errno) {
	if !isSheet(s) {
		return api.LetterSetting{}, 0, api.ErrArg
	}
	l, fits := best.Of(fitting(s, nil), fewerAndWider)
	if !fits {
		return api.LetterSetting{}, 0, api.ErrNone
	}
	return l.LetterSetting, l.stretch, api.OK
}

// Count returns how many settings of the whole name fit.
func Count(s api.LetterSheet) (int, api.Errno) {
	if !isSheet(s) {
		return 0, api.ErrArg
	}
	count := 0
	for range fitting(s, nil) {
		count++
	}
	return count, api.OK
}

// Narrow returns the least width of a front on which the whole name fits.
func Narrow(s api.LetterSheet) (int, api.Errno) {
	if !isSheet(s) {
		return 0, api.ErrArg
	}
	x, _ := best.Of(settings(s, nil), func(a, b api.LetterSetting) bool {
		return frontOf(s, a) < frontOf(s, b)
	})
	return frontOf(s, x), api.OK
}

// Drop returns the fewest words that must be left out so that the others fit, or ErrNone.
func Drop(s api.LetterSheet) ([]int, api.Errno) {
	if !isSheet(s) {
		return nil, api.ErrArg
	}
	out, found := best.Of(enough(s), func(a, b []int) bool { return len(a) < len(b) })
	if !found {
		return nil, api.ErrNone
	}
	return out, api.OK
}

// Over returns without how many last letters the name fits.
func Over(s api.LetterSheet) (int, api.Errno) {
	if !isSheet(s) {
		return 0, api.ErrArg
	}
	over, all := 0, letters(s)
	for over < all && !anyFits(without(s, over), nil) {
		over++
	}
	return over, api.OK
}

// Alike returns two words that can be mistaken for each other when letters have fallen off, or ErrNone.
func Alike(s api.LetterSheet) (int, int, api.Errno) {
	if !isSheet(s) {
		return 0, 0, api.ErrArg
	}
	one, other, e := 0, 0, api.ErrNone
search:
	for i := range s.Words {
		for j := i + 1; j < len(s.Words); j++ {
			if mistaken(s.Words[i].Signs, s.Words[j].Signs) {
				one, other, e = i, j, api.OK
				break search
			}
		}
	}
	return one, other, e
}

// Print returns the text of a sheet.
func Print(s api.LetterSheet) (string, api.Errno) {
	if !isSheet(s) {
		return "", api.ErrArg
	}
	return write(s), api.OK
}

// Read returns the sheet of a text.
func Read(text string) (api.LetterSheet, api.Errno) {
	if len(text) > api.LetterText {
		return api.LetterSheet{}, api.ErrLong
	}
	s, ok := parse(text)
	if !ok {
		return api.LetterSheet{}, api.ErrText
	}
	if !isSheet(s) {
		return api.LetterSheet{}, api.ErrArg
	}
	return s, api.OK
}

// frontOf returns how wide a front must be for a setting without any stretch.
func frontOf(s api.LetterSheet, x api.LetterSetting) int {
	return slices.Max(lay(s, x, 0).rowWidths())
}

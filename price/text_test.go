package price_test

import (
	"slices"
	"strings"
	"testing"

	"mahlstick/api"
	"mahlstick/lines"
	"mahlstick/price"
)

// oneText is the text of the chapter.
const oneText = "price\nowner 0\nboard 1 1 1 1 0\nhour 1 1 down all\nend 069\n"

// The lines of this text, but for the last one.
const (
	priceText = "price"
	ownerText = "owner 0"
	boardText = "board 1 1 1 1 0"
	hourText  = "hour 1 1 down all"
)

// sealed returns a text with some lines, and with their check.
func sealed(body ...string) string { return lines.Seal(body, 211) }

// P8.7: the example of the chapter, sheets with the fewest and the most lines, and all words.
func TestPrint(t *testing.T) {
	if text := sealed(priceText, ownerText, boardText, hourText); text != oneText {
		t.Fatal(text)
	}
	for i, x := range []struct {
		s    api.PriceSheet
		text string
	}{
		{one(), oneText},
		{p(), sealed("price", "owner 0", "owner 25", "board 7 10 3 4 0", "board 5 6 2 2 1", "letter 5 3 near each", "foot 5 4 down all", "hour 4 1 up each")},
		{largest(), sealed("price", "owner 100", "owner 100", "owner 100", "board 60 40 40 40 2", "board 60 40 40 40 2", "board 60 40 40 40 2", "board 60 40 40 40 2", "friend 500 12 even each", "friend 500 12 even each", "friend 500 12 even each")},
		{widest(), sealed("price", "owner 0", "owner 50", "owner 100", "board 60 0 0 6 0", "board 0 40 34 40 1", "board 60 40 10 16 2", "board 30 20 1 7 0", "hour 500 1 up each", "hour 500 12 down all", "friend 0 12 even all")},
		{api.PriceSheet{Offs: l(9), Boards: []api.PriceBoard{board(11, 12, 13, 14, 0)}, Tariffs: []api.PriceTariff{each(api.PriceFriend, 15, 6, api.PriceDown), all(api.PriceLetter, 17, 8, api.PriceEven), all(api.PriceFoot, 19, 10, api.PriceNear)}}, sealed("price", "owner 9", "board 11 12 13 14 0", "friend 15 6 down each", "letter 17 8 even all", "foot 19 10 near all")},
	} {
		if text, e := price.Print(x.s); e != api.OK || text != x.text {
			t.Errorf("%d: %q %v", i, text, e)
		}
		if again, e := price.Read(x.text); e != api.OK || !sameSheet(again, x.s) {
			t.Error(i, again, e)
		}
	}
}

// someSheets returns sheets of all kinds.
func someSheets(seed dice, n int) []api.PriceSheet {
	all := []api.PriceSheet{p(), one(), largest(), widest(), empty()}
	for range n {
		all = append(all, seed.any())
	}
	return all
}

// P8.7 and P0.11: what was written is read as what was written.
func TestReadWhatWasPrinted(t *testing.T) {
	for _, s := range someSheets(12, 2000) {
		text, e := price.Print(s)
		if e != api.OK || len(text) > api.PriceText {
			t.Fatal(s, text, e)
		}
		if again, e := price.Read(text); e != api.OK || !sameSheet(s, again) {
			t.Fatal(s, text, again, e)
		}
	}
}

// P8.7: one digit that was changed is noticed.
func TestChangedDigits(t *testing.T) {
	for _, s := range someSheets(13, 100) {
		text, _ := price.Print(s)
		for i := range text {
			if text[i] < '0' || text[i] > '9' {
				continue
			}
			for _, digit := range strings.Replace("0123456789", text[i:i+1], "", 1) {
				unread(t, api.ErrText, text[:i]+string(digit)+text[i+1:])
			}
		}
	}
}

// unread checks the error of Read, with which nothing else is returned.
func unread(t *testing.T, want api.Errno, texts ...string) {
	t.Helper()
	for i, text := range texts {
		if s, e := price.Read(text); e != want || !sameSheet(s, api.PriceSheet{}) {
			t.Errorf("%d: %q %v %v", i, text, s, e)
		}
	}
}

// P8.7: strings that have no lines as a text has them.
func TestReadLines(t *testing.T) {
	unread(t, api.ErrText,
		"", "\n", "end 000", "end 000\n", "end 00\n", "end\n", "end 001\n", "end 000\n\n", "price\n", strings.TrimSuffix(oneText, "end 069\n"), oneText[1:], oneText+"\n", " "+oneText, "\n"+oneText, oneText+" ", oneText+oneText, strings.TrimSuffix(oneText, "\n"),
		strings.ReplaceAll(oneText, "\n", "\r\n"), strings.ReplaceAll(oneText, "\n", " "), strings.Replace(oneText, "069", "070", 1), strings.Replace(oneText, "069", "280", 1), strings.Replace(oneText, "069", "69", 1), strings.Replace(oneText, "069", "0069", 1), strings.Replace(oneText, "end 069", "end  069", 1), strings.Replace(oneText, "end 069", "end 069 ", 1), strings.Replace(oneText, "end", "End", 1),
		sealed(ownerText, boardText, hourText), sealed(ownerText), sealed(boardText), sealed(hourText), sealed(ownerText, priceText, boardText, hourText), sealed(ownerText, boardText, hourText, priceText), sealed(priceText, priceText, ownerText, boardText, hourText), sealed(priceText, ownerText, priceText, boardText, hourText), sealed(priceText, ownerText, boardText, hourText, priceText), sealed(priceText, priceText),
		sealed(priceText, boardText, ownerText, hourText), sealed(priceText, ownerText, hourText, boardText), sealed(priceText, hourText, ownerText, boardText), sealed(priceText, ownerText, boardText, ownerText, hourText), sealed(priceText, ownerText, boardText, hourText, boardText), sealed(priceText, ownerText, boardText, hourText, ownerText), sealed(priceText, boardText, ownerText), sealed(priceText, hourText, ownerText), sealed(priceText, hourText, boardText),
		sealed("", priceText, ownerText, boardText, hourText), sealed(priceText, "", ownerText, boardText, hourText), sealed(priceText, ownerText, boardText, hourText, ""), sealed(priceText, ownerText, "end 000", boardText, hourText), sealed(priceText, ownerText, boardText, hourText, "end"), sealed(priceText, ownerText, boardText, hourText, "hours 1 1 down all"),
	)
	// lines of tariffs can be mixed
	s, e := price.Read(sealed(priceText, ownerText, boardText, "friend 1 1 up each", "letter 2 2 down all", "hour 3 3 even all"))
	if e != api.OK || !slices.Equal(s.Tariffs, []api.PriceTariff{each(api.PriceFriend, 1, 1, api.PriceUp), all(api.PriceLetter, 2, 2, api.PriceDown), all(api.PriceHour, 3, 3, api.PriceEven)}) {
		t.Error(s, e)
	}
}

// tariffWords returns the words with which lines of tariffs begin.
func tariffWords() []string { return []string{"letter", "foot", "hour", "friend"} }

// P8.7: lines with numbers that are not as a text has them, though the check is right.
func TestReadNumbers(t *testing.T) {
	for _, bad := range []string{"", "00", "01", "001", "1000", "0000", "-1", "+1", "x", "1x", "0x1", "1.0", "1_0", "٣", "\xff", "all", "1,1", "1 1", " 1", "1 ", "\t1"} {
		unread(t, api.ErrText, sealed(priceText, "owner "+bad, boardText, hourText), sealed(priceText, ownerText, "owner "+bad, boardText, hourText), sealed(priceText, "owner "+bad))
		for place := range 5 {
			numbers := strings.Split("1 1 1 1 0", " ")
			numbers[place] = bad
			unread(t, api.ErrText, sealed(priceText, ownerText, "board "+strings.Join(numbers, " "), hourText), sealed(priceText, ownerText, boardText, "board "+strings.Join(numbers, " ")))
		}
		for _, word := range tariffWords() {
			unread(t, api.ErrText, sealed(priceText, ownerText, boardText, word+" "+bad+" 1 down all"), sealed(priceText, ownerText, boardText, word+" 1 "+bad+" down all"), sealed(priceText, word+" 1 "+bad+" down all"))
		}
	}
}

// P8.7: lines with words that are not as a text has them, though the check is right.
func TestReadWords(t *testing.T) {
	for _, others := range []string{"", " ", " down", " all", " down ", " all down", " down all ", " down all each", "  down all", " down  all", " Down all", " down All", " down each all", " 1 down all", " round all", " down both", " down yes", " down 1", " 1 all", " up down", " each all", " near -", " - all", " evens each", " even eac", "\tdown all", " down\tall", " dow all", " up,down all", " \xff all", " down \xff"} {
		for _, word := range tariffWords() {
			unread(t, api.ErrText, sealed(priceText, ownerText, boardText, word+" 1 1"+others), sealed(priceText, ownerText, boardText, hourText, word+" 1 1"+others), sealed(priceText, word+" 1 1"+others))
		}
	}
	for _, bad := range []string{"price ", " price", "price 1", "price 0 0", "Price", "prices", "pric", "owner", "end", ""} {
		unread(t, api.ErrText, sealed(bad, ownerText, boardText, hourText), sealed(bad))
	}
	for _, bad := range []string{"owner", "owner ", "owner 0 0", "owner  0", " owner 0", "owner 0 ", "Owner 0", "owners 0", "own 0", "off 0", "price 0", "end 000", "board", "board 1 1 1 1", "board 1 1 1 1 0 0", "board 1 1 1 1 0 ", " board 1 1 1 1 0", "Board 1 1 1 1 0", "boards 1 1 1 1 0", "bored 1 1 1 1 0", "letter", "foot 1 down all", "hour 1 1 down", "friend 1 1 1 down all", "friends 1 1 down all", "feet 1 1 down all", "hours 1 1 down all", "Letter 1 1 down all", " hour 1 1 down all", "kind 1 1 down all"} {
		unread(t, api.ErrText, sealed(priceText, bad, ownerText, boardText, hourText), sealed(priceText, ownerText, bad, boardText, hourText), sealed(priceText, ownerText, boardText, bad, hourText), sealed(priceText, ownerText, boardText, hourText, bad), sealed(priceText, bad))
	}
}

// P8.7: a text has its form with any numbers and lines, but its sheet may not be as defined.
func TestReadSheets(t *testing.T) {
	many := func(line string, count int) []string { return slices.Repeat([]string{line}, count) }
	unread(t, api.ErrArg,
		sealed(priceText), sealed(priceText, ownerText), sealed(priceText, boardText), sealed(priceText, hourText), sealed(priceText, ownerText, boardText), sealed(priceText, ownerText, hourText), sealed(priceText, boardText, hourText),
		sealed(slices.Concat(many(priceText, 1), many(ownerText, 4), many(boardText, 1), many(hourText, 1))...), sealed(slices.Concat(many(priceText, 1), many(ownerText, 1), many(boardText, 5), many(hourText, 1))...), sealed(slices.Concat(many(priceText, 1), many(ownerText, 1), many(boardText, 1), many(hourText, 4))...), sealed(slices.Concat(many(priceText, 1), many("owner 999", 10))...),
		sealed(priceText, "owner 101", boardText, hourText), sealed(priceText, "owner 999", boardText, hourText), sealed(priceText, ownerText, "owner 100", "owner 101", boardText, hourText),
		sealed(priceText, ownerText, "board 61 1 1 1 0", hourText), sealed(priceText, ownerText, "board 1 41 1 1 0", hourText), sealed(priceText, ownerText, "board 1 1 1 0 0", hourText), sealed(priceText, ownerText, "board 1 1 1 8 0", hourText), sealed(priceText, ownerText, "board 1 1 40 41 0", hourText), sealed(priceText, ownerText, "board 1 1 1 1 1", hourText), sealed(priceText, ownerText, "board 999 999 999 999 999", hourText), sealed(priceText, ownerText, boardText, "board 1 1 1 1 1", hourText),
	)
	for _, word := range tariffWords() {
		for _, rule := range []string{"down", "up", "near", "even"} {
			for _, when := range []string{"each", "all"} {
				unread(t, api.ErrArg, sealed(priceText, ownerText, boardText, word+" 501 1 "+rule+" "+when), sealed(priceText, ownerText, boardText, word+" 1 0 "+rule+" "+when), sealed(priceText, ownerText, boardText, word+" 1 13 "+rule+" "+when), sealed(priceText, ownerText, boardText, word+" 999 999 "+rule+" "+when), sealed(priceText, ownerText, word+" 1 1 "+rule+" "+when))
			}
		}
	}
	for _, owners := range l(1, 2, 3) {
		body := slices.Concat(many(priceText, 1), many("owner 100", owners), many("board 60 40 34 40 0", owners+1), many("friend 0 12 even each", owners))
		if s, e := price.Read(sealed(body...)); e != api.OK || len(s.Offs) != owners || len(s.Boards) != owners+1 || len(s.Tariffs) != owners || s.Offs[0] != 100 || s.Boards[owners] != board(60, 40, 34, 40, 0) || s.Tariffs[0] != each(api.PriceFriend, 0, 12, api.PriceEven) {
			t.Error(owners, s, e)
		}
	}
}

// filled returns a text of so many bytes, with more owners than there can be.
func filled(bytes int) string {
	least := sealed(slices.Concat([]string{priceText}, slices.Repeat([]string{"owner 9"}, 20))...)
	// some owners have a digit more, or two
	body := []string{priceText}
	for longer := bytes - len(least); len(body) <= 20; longer -= min(longer, 2) {
		body = append(body, "owner "+strings.Repeat("9", 1+min(longer, 2)))
	}
	return sealed(body...)
}

// P8.7: a string may have as many bytes as a text at most, and no more.
func TestReadLong(t *testing.T) {
	for bytes := 190; bytes < 214; bytes++ {
		text := filled(bytes)
		if len(text) != bytes {
			t.Fatal(bytes, len(text), text)
		}
		want := api.ErrArg
		if bytes > 210 {
			want = api.ErrLong
		}
		unread(t, want, text)
	}
	unread(t, api.ErrLong, strings.Repeat("x", 211), strings.Repeat("\n", 5000), oneText+strings.Repeat(" ", 211-len(oneText)))
	unread(t, api.ErrText, strings.Repeat("x", 210), strings.Repeat("\xff", 210), oneText+strings.Repeat(" ", 210-len(oneText)))
}

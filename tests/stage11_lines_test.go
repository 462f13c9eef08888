package tests

import (
	"math"
	"slices"
	"strings"
	"testing"

	"loop.example/g00084/impl"
)

func TestLinesConstants(t *testing.T) {
	if impl.MaxScript != 4000 || impl.MaxLines != 200 {
		t.Error(impl.MaxScript, impl.MaxLines)
	}
}

func TestTextsOfOperations(t *testing.T) {
	for text, op := range map[string]impl.Op{
		"quote 1 2":                              quote(people(2), 1),
		"quote 1,2,4 2+400/150@1x2":              quote(family(), 1, 2, 4),
		"hold Ann 1,2 3+500/200@1x2 40":          hold("Ann", 40, withBerths(withCar(people(3), 500, 200), 1, 2), 1, 2),
		"hold Bo 7 1@3 0":                        hold("Bo", 0, withWhole(people(1), 3), 7),
		"hold abcdefghijkl 99,98,97 20 10000":    hold("abcdefghijkl", 10000, people(20), 99, 98, 97),
		"book Ann 1 1":                           book("Ann", people(1), 1),
		"book Z 3,2,1 20+2000/500@3x4":           book("Z", withBerths(withCar(people(20), 2000, 500), 3, 4), 3, 2, 1),
		"book aZ 5,5 9+1/1":                      book("aZ", withCar(people(9), 1, 1), 5, 5),
		"book x 1 1@1x1":                         book("x", withBerths(people(1), 1, 1), 1),
		"confirm 1":                              confirm(1),
		"confirm 30":                             confirm(30),
		"amend 2 1 4@2":                          amend(2, withWhole(people(4), 2), 1),
		"amend 30 1,2,3 4+450/220@2":             amend(30, withWhole(withCar(people(4), 450, 220), 2), 1, 2, 3),
		"cancel 1 0":                             cancel(1, 0),
		"cancel 30 10000":                        cancel(30, 10000),
		"transfer 1 Ann":                         transfer(1, "Ann"),
		"transfer 30 quote":                      transfer(30, "quote"),
		"expire 1 0":                             expire(1, 0),
		"expire 9 9999":                          expire(9, 9999),
		"manifest 1":                             manifest(1),
		"manifest 0":                             manifest(0),
		"manifest 99999":                         manifest(99999),
		"quote 0 1":                              quote(people(1), 0),
		"quote 99999,0,10000 10":                 quote(people(10), 99999, 0, 10000),
		"book sail 100,20,3 10+1000/100@1":       book("sail", withWhole(withCar(people(10), 1000, 100), 1), 100, 20, 3),
		"hold NAME 1 1 100":                      hold("NAME", 100, people(1), 1),
		"hold LEGS 10,20,30 12+1234/321@2x3 101": hold("LEGS", 101, withBerths(withCar(people(12), 1234, 321), 2, 3), 10, 20, 30),
	} {
		wantOpText(t, op, text)
	}
}

// partiesForTexts have each car and each cabin with few and many people.
func partiesForTexts() []impl.Party {
	var all []impl.Party
	for _, many := range []int{1, 2, 9, 10, 20} {
		for _, car := range [][2]int{{0, 0}, {1, 1}, {9, 500}, {450, 220}, {2000, 100}} {
			p := withCar(people(many), car[0], car[1])
			all = append(all, p)
			for class := 1; class <= 3; class++ {
				all = append(all, withWhole(p, class))
				for many := 1; many <= 4; many++ {
					all = append(all, withBerths(p, class, many))
				}
			}
		}
	}
	return all
}

func TestEveryPartyThereAndBack(t *testing.T) {
	texts := map[string]impl.Op{}
	for _, p := range partiesForTexts() {
		for _, legs := range [][]int{{1}, {99999}, {3, 0}, {12, 345, 6789}} {
			for _, op := range []impl.Op{quote(p, legs...), hold("Ann", 77, p, legs...), book("Bo", p, legs...), amend(7, p, legs...)} {
				text, good := opTextByWords(op)
				if other, twice := texts[text]; twice || !good {
					t.Fatal(text, op, other)
				}
				texts[text] = op
				wantOpText(t, op, text)
			}
		}
	}
	if len(texts) != 5*5*16*4*4 {
		t.Error(len(texts))
	}
}

func TestNumbersOfTexts(t *testing.T) {
	for name := 1; name <= 30; name++ {
		for _, time := range []int{0, 1, 9, 10, 99, 100, 999, 1000, 9999, 10000} {
			wantSameOp(t, confirm(name))
			wantSameOp(t, cancel(name, time))
			wantSameOp(t, expire(name, time))
			wantSameOp(t, transfer(name, "Ann"))
			wantSameOp(t, hold("Ann", time, people(1), name))
		}
	}
	for _, owner := range textsThatAreNames() {
		wantSameOp(t, hold(owner, 1, people(1), 1))
		wantSameOp(t, book(owner, everything(), 1))
		wantSameOp(t, transfer(1, owner))
	}
}

// wantSameOp asks for an operation there and back.
func wantSameOp(t *testing.T, op impl.Op) {
	t.Helper()
	text, _ := opTextByWords(op)
	wantOpText(t, op, text)
}

// A good operation has a text only if each of its legs has five digits at most, and no sign.
func TestLegsThatHaveAText(t *testing.T) {
	with := func(legs ...int) []impl.Op {
		ops := []impl.Op{quote(people(1), legs...), hold("Ann", 1, people(1), legs...), book("Ann", family(), legs...), amend(1, people(1), legs...)}
		if len(legs) == 1 {
			ops = append(ops, manifest(legs[0]))
		}
		return ops
	}
	places := func(leg int) []impl.Op {
		return slices.Concat(with(leg), with(leg, 1), with(1, leg), with(leg, 1, 1), with(1, leg, 1), with(1, 1, leg), with(leg, leg, leg))
	}
	for _, leg := range []int{0, 1, 9, 10, 99, 100, 101, 9999, 10000, 10001, 99998, 99999} {
		for _, op := range places(leg) {
			wantSameOp(t, op)
		}
	}
	for _, leg := range []int{-1, -9, -10, -99999, -100000, 100000, 100001, 999999, 1 << 32, 1<<32 + 1, math.MaxInt, math.MinInt, math.MinInt + 1} {
		for _, op := range places(leg) {
			if !impl.GoodOp(op) {
				t.Error(op)
			}
			wantNoOpText(t, op)
		}
	}
}

func TestTextsThatAreNoOperation(t *testing.T) {
	for _, text := range []string{
		"", " ", "  ", "\n", "-", "0", "1", "quote", "hold", "book", "confirm", "amend", "cancel", "transfer", "expire", "manifest",
		// blanks
		" quote 1 2", "quote 1 2 ", "quote  1 2", "quote 1  2", "quote1 2", "quote 12", "quote 1,2", "confirm1", "confirm  1", " confirm 1", "confirm 1 ",
		"quote 1, 2 1", "quote 1 ,2 1", "quote 1 2 +1/1", "quote 1 2+1/1 @1", "quote 1 2+1 /1", "quote 1 2@1 x1", "quote\t1 2", "quote 1\t2", "quote 1 2\n", "\nquote 1 2", "quote 1 2\r", "quote\x001 2", "quote 1\u00a02",
		// words
		"Quote 1 2", "QUOTE 1 2", "quot 1 2", "quotes 1 2", "new quote 1 2", "sail 1 2", "manifests 1", "x 1", "7 1", "hold 1 2", "book 1 2", "confirm Ann", "manifest Ann", "quote Ann 1 2",
		"quote 1", "quote 2+1/1", "quote 1 2 3", "hold Ann 1 1", "hold 1 1 40", "hold Ann 1 1 40 50", "hold Ann 1 40", "book Ann 1", "book 1 1", "book Ann 1 1 40", "book Ann Bo 1 1", "confirm", "confirm 1 2", "amend 1 1", "amend 1 1 1 1", "amend Ann 1 1",
		"cancel 1", "cancel 1 2 3", "cancel 1 Ann", "transfer 1", "transfer Ann", "transfer Ann 1", "transfer 1 Ann 2", "transfer 1 Ann Bo", "expire 1", "expire 1 2 3", "manifest", "manifest 1 1", "manifest 1,2", "manifest 1,1",
		// numbers
		"confirm 01", "confirm 001", "confirm 00001", "confirm 000001", "confirm +1", "confirm -1", "confirm 1.0", "confirm 1e1", "confirm 0x1", "confirm 1_0", "confirm --1", "confirm -", "confirm +", "confirm 100000", "confirm 999999", "confirm 18446744073709551617", "confirm 4294967297",
		"quote 01 2", "quote 00 2", "quote 1,02 2", "quote +1 2", "quote -1 2", "quote -0 2", "quote 1,-2 2", "quote 100000 2", "quote 1,100000 2", "quote 000001 2", "quote 1 02", "quote 1 +2", "quote 1 -2", "quote 1 100000", "quote 1 2+01/1", "quote 1 2+1/01", "quote 1 2+1/1@01", "quote 1 2@1x01", "quote 1 2@01x1",
		"quote 1 2++1/1", "quote 1 2+-1/1", "quote 1 2+1/-1", "quote 1 2+1/+1", "quote 1 2@-1", "quote 1 2@+1", "quote 1 2@1x-1", "quote 1 2@1x+1", "hold Ann 1 1 040", "hold Ann 1 1 -0", "hold Ann 1 1 -1", "hold Ann 1 1 +1", "hold Ann 1 1 100000", "cancel 1 00", "cancel 1 -1", "cancel 01 1", "expire 1 00", "expire 1 100000", "manifest 01", "manifest -1", "manifest -0", "manifest 100000", "manifest 1x",
		// no digits
		"quote  2", "quote , 2", "quote ,1 2", "quote 1, 2", "quote 1,,2 2", "quote - 2", "quote 1 ", "quote 1 +1/1", "quote 1 @1", "quote 1 2+/1", "quote 1 2+1/", "quote 1 2+/", "quote 1 2+1", "quote 1 2+", "quote 1 2@", "quote 1 2@x1", "quote 1 2@1x", "quote 1 2@x", "hold Ann 1 1 ", "confirm ", "manifest ", "manifest ,", "manifest -", "cancel 1 ", "cancel  1",
		// parties
		"quote 1 2@1+1/1", "quote 1 2+1/1+1/1", "quote 1 2@1@1", "quote 1 2@1x1x1", "quote 1 2@1x1@1", "quote 1 2+1/1/1", "quote 1 2x1", "quote 1 2/1", "quote 1 2x1@1", "quote 1 2+1/1x1", "quote 1 2+1x1", "quote 1 2@1X1", "quote 1 2@1/1", "quote 1 2*1/1", "quote 1 2-", "quote 1 -", "quote 1 2,3",
		// not good
		"quote 1 0", "quote 1 21", "quote 1,2,3,4 1", "quote 1 1+0/0", "quote 1 1+0/1", "quote 1 1+1/0", "quote 1 1+2001/1", "quote 1 1+1/501", "quote 1 1@0", "quote 1 1@4", "quote 1 1@0x0", "quote 1 1@0x1", "quote 1 1@1x0", "quote 1 1@1x5", "quote 1 1@4x1", "quote 1 1+0/0@0x0", "quote 1 1+1/1@0x0", "quote 1 1+0/0@1",
		"hold Ann 1 1 10001", "hold Ann 1 1 99999", "confirm 0", "confirm 31", "amend 0 1 1", "amend 31 1 1", "cancel 0 1", "cancel 31 1", "cancel 1 10001", "transfer 0 Ann", "transfer 31 Ann", "expire 0 1", "expire 31 1", "expire 1 10001",
		// names
		"book  1 1", "book abcdefghijklm 1 1", "book A1 1 1", "book A- 1 1", "book A,B 1 1", "book A_b 1 1", "book Å 1 1", "book \u017f 1 1", "book \xff 1 1", "book A\xc3 1 1", "book \u212a 1 1", "transfer 1 ", "transfer 1 abcdefghijklm", "transfer 1 @", "transfer 1 [", "transfer 1 `", "transfer 1 {", "hold 1 1 1 1", "hold A.n 1 1 1",
		// bytes above 127, and what is no rune
		"quote 1 2\xff", "\xffquote 1 2", "quote\xff1 2", "quote \xff 2", "quote 1 \xff", "quote 1,\xff 2", "quote 1 2+\xff/1", "quote \u0661 2", "quote 1 \u0662", "quote \uff11 2", "quote 1 2@\u00b9", "confirm \u0661", "confirm 1\u0301", "confirm \u00b9", "con\u0301firm 1", "quote 1\uff0c2 1", "quote 1 2\u00d71", "\u20ac", "\xe2\x82", "\xed\xa0\x80", "manifest 1\xc0\x80",
	} {
		wantNoOp(t, text)
	}
}

// goodOpTexts are the texts of operations of each kind.
func goodOpTexts() []string {
	return []string{
		"quote 1 2", "quote 1,2,4 2+400/150@1x2", "hold Ann 1,2 3+500/200@1x2 40", "hold Bo 10 1@3 0", "book Ann 1 11+20/30@2", "book Zoe 99999,0 1@2x3",
		"confirm 12", "amend 2 1,3 4@2", "cancel 1 100", "transfer 20 Ann", "expire 1 1000", "manifest 10",
	}
}

// eachText makes one small change after the other to a text: each byte gone, doubled, another one, or one put in; each two bytes and each two words turned round, each word gone, doubled, or another one.
func eachText(text string, bytes []byte, words []string, do func(text string)) {
	for i := range len(text) {
		do(text[:i] + text[i+1:])
		do(text[:i] + text[i:i+1] + text[i:])
		do(text[:i])
		do(text[i:])
		if i > 0 {
			do(text[:i-1] + text[i:i+1] + text[i-1:i] + text[i+1:])
		}
	}
	for i := range len(text) + 1 {
		for _, b := range bytes {
			do(text[:i] + string([]byte{b}) + text[i:])
			if i < len(text) {
				do(text[:i] + string([]byte{b}) + text[i+1:])
			}
		}
	}
	all := strings.Split(text, " ")
	for i := range all {
		do(strings.Join(slices.Delete(slices.Clone(all), i, i+1), " "))
		do(strings.Join(slices.Insert(slices.Clone(all), i, all[i]), " "))
		for j := range i {
			turned := slices.Clone(all)
			turned[i], turned[j] = turned[j], turned[i]
			do(strings.Join(turned, " "))
		}
		for _, word := range words {
			other := slices.Clone(all)
			other[i] = word
			do(strings.Join(other, " "))
			do(strings.Join(slices.Insert(slices.Clone(all), i, word), " "))
		}
	}
}

func everyByte() []byte {
	var all []byte
	for b := range 256 {
		all = append(all, byte(b))
	}
	return all
}

func wordsForTexts() []string {
	return []string{
		"", "-", "0", "1", "00", "01", "10", "30", "31", "99", "100", "500", "501", "9999", "10000", "10001", "99999", "100000", "-1", "+1", "Ann", "abcdefghijklm", "quote", "hold", "book", "confirm", "amend", "cancel", "transfer", "expire", "manifest", "sail", "new",
		"1,2", "1,2,3", "1,2,3,4", "1,", ",1", "1,,1", "0,0", "1,-1", "2+1/1", "2@1", "2@1x1", "2@1x4", "2@1x5", "2+1/1@1", "2+0/0", "2@0x0", "20+2000/500@3x4", "1/1", "1/100", "5000/500", "5001/500", "1/1,2/2", "1/100,1/100", "1/100,,1/100", "1/100,-", "-,1/100", "-,-", "--", "3/4", "3/5", "1/4,2/3,3/2", "\xff", "\u0661",
	}
}

// What is read has just this text; what isn't read, no good operation has.
func checkReadOp(t *testing.T, text string) bool {
	t.Helper()
	op, good := impl.ReadOp(text)
	want, wantGood := readOpByWords(text)
	if good != wantGood || !sameOp(op, want) {
		t.Fatalf("%q: %+v, %v, and by the words %+v, %v", text, op, good, want, wantGood)
	}
	if again, told := impl.OpText(op); told != good || good && again != text {
		t.Fatalf("%q: %+v is told as %q, %v", text, op, again, told)
	}
	return good
}

func TestEveryChangeOfATextOfAnOperation(t *testing.T) {
	good, none := 0, 0
	for _, text := range goodOpTexts() {
		if !checkReadOp(t, text) {
			t.Error(text)
		}
		eachText(text, everyByte(), wordsForTexts(), func(text string) {
			read := checkReadOp(t, text)
			good, none = good+count(read), none+count(!read)
		})
	}
	if good < 1000 || none < 50000 {
		t.Error(good, none)
	}
}

func TestTextsOfSailings(t *testing.T) {
	bare := sail(1, "Oslo", "Kiel", 0, 1)
	wantSailText(t, bare, "sail 1 Oslo Kiel 0 1 0 - -")
	wantSailText(t, fullSailing(50), "sail 50 Oslo Kiel 10 20 120 900/220,1/100,5000/500 1/4,2/2,3/1")
	lanes := sail(99, "a", "Z", 9998, 9999)
	lanes.Lanes = []impl.Lane{lane(5000, 500), lane(1, 100), lane(10, 101), lane(100, 499)}
	lanes.Most = 500
	wantSailText(t, lanes, "sail 99 a Z 9998 9999 500 5000/500,1/100,10/101,100/499 -")
	cabins := sail(10, "abcdefghijkl", "ABCDEFGHIJKL", 0, 10000)
	cabins.Cabins = []impl.Cabin{cabin(1, 1), cabin(3, 4), cabin(2, 2), cabin(1, 1), cabin(3, 3), cabin(1, 4)}
	cabins.Most = 1
	wantSailText(t, cabins, "sail 10 abcdefghijkl ABCDEFGHIJKL 0 10000 1 - 1/1,3/4,2/2,1/1,3/3,1/4")
	one := sail(2, "sail", "Sail", 100, 1000)
	one.Lanes, one.Cabins, one.Most = []impl.Lane{lane(500, 200)}, []impl.Cabin{cabin(2, 3)}, 10
	wantSailText(t, one, "sail 2 sail Sail 100 1000 10 500/200 2/3")
	for _, s := range ferries() {
		text, _ := sailTextByWords(s)
		wantSailText(t, s, text)
	}
}

func TestEverySailingAtTheEdgeThereAndBack(t *testing.T) {
	some := []impl.Lane{lane(1, 100), lane(5000, 500), lane(123, 210)}
	many := []impl.Cabin{cabin(1, 1), cabin(3, 4), cabin(2, 3)}
	for _, id := range []int{1, 9, 10, 99} {
		for _, times := range [][2]int{{0, 1}, {0, 10000}, {9999, 10000}, {99, 100}} {
			for _, most := range []int{0, 1, 99, 500} {
				for lanes := range 5 {
					for cabins := range 7 {
						s := sail(id, "Oslo", "oslo", times[0], times[1])
						s.Most = most
						for i := range lanes {
							s.Lanes = append(s.Lanes, some[(i+id)%3])
						}
						for i := range cabins {
							s.Cabins = append(s.Cabins, many[(i+most)%3])
						}
						text, _ := sailTextByWords(s)
						wantSailText(t, s, text)
					}
				}
			}
		}
	}
	names := textsThatAreNames()
	for i, from := range names {
		for _, to := range names[i+1:] {
			text, _ := sailTextByWords(sail(5, from, to, 1, 2))
			wantSailText(t, sail(5, from, to, 1, 2), text)
		}
	}
}

func TestTextsThatAreNoSailing(t *testing.T) {
	for _, text := range []string{
		"", " ", "sail", "sail ", "-", "sail - -", "quote 1 2",
		// blanks
		" sail 1 Oslo Kiel 0 1 0 - -", "sail 1 Oslo Kiel 0 1 0 - - ", "sail  1 Oslo Kiel 0 1 0 - -", "sail 1 Oslo  Kiel 0 1 0 - -", "sail 1 Oslo Kiel 0 1 0 -  -", "sail 1 Oslo Kiel 0 1 0 --", "sail 1 OsloKiel 0 1 0 - -", "sail1 Oslo Kiel 0 1 0 - -", "sail 1 Oslo Kiel 01 0 - -",
		"sail 1 Oslo Kiel 0 1 0 1/100, 2/100 -", "sail 1 Oslo Kiel 0 1 0 1/100 ,2/100 -", "sail 1 Oslo Kiel 0 1 0 1 /100 -", "sail 1 Oslo Kiel 0 1 0 - -\n", "sail 1 Oslo Kiel 0 1 0 -\t-", "sail 1 Oslo Kiel 0 1 0 - -\x00",
		// words
		"Sail 1 Oslo Kiel 0 1 0 - -", "sails 1 Oslo Kiel 0 1 0 - -", "sai 1 Oslo Kiel 0 1 0 - -", "1 Oslo Kiel 0 1 0 - -", "sail Oslo Kiel 0 1 0 - -", "sail 1 Kiel 0 1 0 - -", "sail 1 Oslo Kiel 1 0 - -", "sail 1 Oslo Kiel 0 1 - -", "sail 1 Oslo Kiel 0 1 0 -", "sail 1 Oslo Kiel 0 1 0", "sail 1 Oslo Kiel 0 1 0 - - -", "sail 1 Oslo Kiel 0 1 0 0 - -", "sail sail 1 Oslo Kiel 0 1 0 - -", "sail 1 1 Oslo Kiel 0 1 0 - -", "sail Oslo 1 Kiel 0 1 0 - -",
		// numbers
		"sail 01 Oslo Kiel 0 1 0 - -", "sail +1 Oslo Kiel 0 1 0 - -", "sail -1 Oslo Kiel 0 1 0 - -", "sail 000001 Oslo Kiel 0 1 0 - -", "sail 4294967297 Oslo Kiel 0 1 0 - -", "sail 1 Oslo Kiel 00 1 0 - -", "sail 1 Oslo Kiel -0 1 0 - -", "sail 1 Oslo Kiel -1 1 0 - -", "sail 1 Oslo Kiel 0 +1 0 - -", "sail 1 Oslo Kiel 0 1 00 - -", "sail 1 Oslo Kiel 0 1 -0 - -", "sail 1 Oslo Kiel 0 100000 0 - -", "sail 1 Oslo Kiel 0 1 100000 - -", "sail x Oslo Kiel 0 1 0 - -", "sail 1 Oslo Kiel x 1 0 - -", "sail 1 Oslo Kiel 0 1 x - -", "sail 1 Oslo Kiel - 1 0 - -", "sail 1 Oslo Kiel 0 1 - - -",
		// lists
		"sail 1 Oslo Kiel 0 1 0  -", "sail 1 Oslo Kiel 0 1 0 - ", "sail 1 Oslo Kiel 0 1 0 , -", "sail 1 Oslo Kiel 0 1 0 1/100, -", "sail 1 Oslo Kiel 0 1 0 ,1/100 -", "sail 1 Oslo Kiel 0 1 0 1/100,,1/100 -", "sail 1 Oslo Kiel 0 1 0 - 1/1,", "sail 1 Oslo Kiel 0 1 0 - ,1/1", "sail 1 Oslo Kiel 0 1 0 - 1/1,,1/1",
		"sail 1 Oslo Kiel 0 1 0 -,1/100 -", "sail 1 Oslo Kiel 0 1 0 1/100,- -", "sail 1 Oslo Kiel 0 1 0 1/100,-,1/100 -", "sail 1 Oslo Kiel 0 1 0 -,- -", "sail 1 Oslo Kiel 0 1 0 -- -", "sail 1 Oslo Kiel 0 1 0 - -,1/1", "sail 1 Oslo Kiel 0 1 0 - 1/1,-", "sail 1 Oslo Kiel 0 1 0 - -,-", "sail 1 Oslo Kiel 0 1 0 - --", "sail 1 Oslo Kiel 0 1 0 -1/100 -", "sail 1 Oslo Kiel 0 1 0 1/-100 -", "sail 1 Oslo Kiel 0 1 0 - -1/1",
		"sail 1 Oslo Kiel 0 1 0 1 -", "sail 1 Oslo Kiel 0 1 0 1/ -", "sail 1 Oslo Kiel 0 1 0 /100 -", "sail 1 Oslo Kiel 0 1 0 / -", "sail 1 Oslo Kiel 0 1 0 1/100/1 -", "sail 1 Oslo Kiel 0 1 0 1//100 -", "sail 1 Oslo Kiel 0 1 0 01/100 -", "sail 1 Oslo Kiel 0 1 0 1/0100 -", "sail 1 Oslo Kiel 0 1 0 +1/100 -", "sail 1 Oslo Kiel 0 1 0 1x100 -", "sail 1 Oslo Kiel 0 1 0 1/100;1/100 -", "sail 1 Oslo Kiel 0 1 0 - 1", "sail 1 Oslo Kiel 0 1 0 - 1/", "sail 1 Oslo Kiel 0 1 0 - /1", "sail 1 Oslo Kiel 0 1 0 - 01/1", "sail 1 Oslo Kiel 0 1 0 - 1/01", "sail 1 Oslo Kiel 0 1 0 - 1x1",
		// not good
		"sail 0 Oslo Kiel 0 1 0 - -", "sail 100 Oslo Kiel 0 1 0 - -", "sail 1 Oslo Oslo 0 1 0 - -", "sail 1 Oslo Kiel 1 1 0 - -", "sail 1 Oslo Kiel 2 1 0 - -", "sail 1 Oslo Kiel 0 0 0 - -", "sail 1 Oslo Kiel 0 10001 0 - -", "sail 1 Oslo Kiel 0 1 501 - -", "sail 1 Oslo Kiel 0 1 0 0/100 -", "sail 1 Oslo Kiel 0 1 0 5001/100 -", "sail 1 Oslo Kiel 0 1 0 1/99 -", "sail 1 Oslo Kiel 0 1 0 1/501 -", "sail 1 Oslo Kiel 0 1 0 - 0/1", "sail 1 Oslo Kiel 0 1 0 - 4/1", "sail 1 Oslo Kiel 0 1 0 - 1/0", "sail 1 Oslo Kiel 0 1 0 - 1/5",
		"sail 1 Oslo Kiel 0 1 0 1/100,1/100,1/100,1/100,1/100 -", "sail 1 Oslo Kiel 0 1 0 - 1/1,1/1,1/1,1/1,1/1,1/1,1/1", "sail 1 Oslo abcdefghijklm 0 1 0 - -", "sail 1 abcdefghijklm Kiel 0 1 0 - -", "sail 1 Os1o Kiel 0 1 0 - -", "sail 1 Oslo Ki-el 0 1 0 - -",
		// bytes above 127, and what is no rune
		"sail 1 Åse Kiel 0 1 0 - -", "sail 1 Oslo K\xffel 0 1 0 - -", "\xffsail 1 Oslo Kiel 0 1 0 - -", "sail 1 Oslo Kiel 0 1 0 - -\xff", "sail 1 Oslo Kiel 0 1 0 \xff -", "sail 1 Oslo Kiel 0 1 0 - \u2013", "sail \u0661 Oslo Kiel 0 1 0 - -", "sail 1 Oslo Kiel 0 \uff11 0 - -", "sail 1 Oslo Kiel\u00a00 1 0 - -",
	} {
		wantNoSail(t, text)
	}
}

func checkReadSail(t *testing.T, text string) bool {
	t.Helper()
	s, good := impl.ReadSail(text)
	want, wantGood := readSailByWords(text)
	if good != wantGood || !sameSailings([]impl.Sailing{s}, []impl.Sailing{want}) {
		t.Fatalf("%q: %+v, %v, and by the words %+v, %v", text, s, good, want, wantGood)
	}
	if again, told := impl.SailText(s); told != good || good && again != text {
		t.Fatalf("%q: %+v is told as %q, %v", text, s, again, told)
	}
	return good
}

func TestEveryChangeOfATextOfASailing(t *testing.T) {
	good, none := 0, 0
	for _, text := range []string{"sail 1 Oslo Kiel 0 1 0 - -", "sail 50 Oslo Kiel 10 20 120 900/220,1/100,5000/500 1/4,2/2,3/1", "sail 9 a B 999 1000 50 10/200 2/3"} {
		if !checkReadSail(t, text) {
			t.Error(text)
		}
		eachText(text, everyByte(), wordsForTexts(), func(text string) {
			read := checkReadSail(t, text)
			good, none = good+count(read), none+count(!read)
		})
	}
	if good < 500 || none < 20000 {
		t.Error(good, none)
	}
}

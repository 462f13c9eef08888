package tests

import (
	"math"
	"slices"
	"testing"

	"loop.example/g00084/impl"
)

// numbersNoFareHas are no people, length, height, class, berths and legs; some of them, times a fare or cut short, would come back into their bounds.
func numbersNoFareHas() []int {
	all := append(numbersFarOut(), -3, -40, -1000001, 1<<16+1, 1<<20+7, 1000001, 1<<31, 1<<31+1, 1<<61+1, 1<<62, 1<<62+1, -1<<61, -1<<62)
	for _, part := range []int{3, 20, 25, 30, 40, 50, 80, 100, 120} {
		all = append(all, math.MaxInt/part+1, math.MinInt/part-1, math.MaxInt/part*2+1)
	}
	return slices.DeleteFunc(all, func(n int) bool { return n == 10001 })
}

// wantNoPrice asks about a party that is not good.
func wantNoPrice(t *testing.T, what string, p impl.Party) {
	t.Helper()
	if goodPartyByWords(p) {
		t.Error("good by the words:", what)
	}
	if impl.GoodParty(p) {
		t.Errorf("%s: %+v is good", what, p)
	}
	for legs := -1; legs <= 4; legs++ {
		if price, ok := impl.PriceOf(p, legs); price != 0 || ok {
			t.Errorf("%s: %+v, %d legs: %d, %v", what, p, legs, price, ok)
		}
	}
}

// wantNoPriceWithAny makes the same change to parties with and without a car and a cabin.
func wantNoPriceWithAny(t *testing.T, what string, change func(*impl.Party)) {
	t.Helper()
	for _, many := range []int{1, 7, 8, 20} {
		car := withCar(people(many), 450, 220)
		for _, p := range []impl.Party{people(many), car, withBerths(people(many), 2, 2), withBerths(car, 1, 4), withWhole(people(many), 1), withWhole(car, 3)} {
			change(&p)
			wantNoPrice(t, what, p)
		}
	}
}

func TestPartiesWithPeopleOutOfTheirBounds(t *testing.T) {
	for _, n := range append(numbersNoFareHas(), 0, -1, 21, 22, 256+1, 10001) {
		wantNoPriceWithAny(t, "People", func(p *impl.Party) { p.People = n })
	}
	wantNoPrice(t, "nothing set", impl.Party{})
	wantNoPrice(t, "a car alone", withCar(people(0), 450, 220))
	wantNoPrice(t, "berths alone", withBerths(people(0), 1, 1))
	wantNoPrice(t, "a whole cabin alone", withWhole(people(0), 1))
}

func TestPartiesWithACarThatIsNone(t *testing.T) {
	set := func(length, height int) func(*impl.Party) {
		return func(p *impl.Party) { p.Length, p.Height = length, height }
	}
	for _, length := range []int{-1, 1, 2, 450, 451, 600, 601, 2000, 2001} {
		wantNoPriceWithAny(t, "a Length without a Height", set(length, 0))
		wantNoPriceWithAny(t, "a Height below 0", set(length, -1))
		wantNoPriceWithAny(t, "a Height above 500", set(length, 501))
	}
	for _, height := range []int{-1, 1, 2, 220, 221, 500, 501} {
		wantNoPriceWithAny(t, "a Height without a Length", set(0, height))
		wantNoPriceWithAny(t, "a Length below 0", set(-1, height))
		wantNoPriceWithAny(t, "a Length above 2000", set(2001, height))
	}
	for _, n := range append(numbersNoFareHas(), 10001) {
		wantNoPriceWithAny(t, "a Length far out", set(n, 200))
		wantNoPriceWithAny(t, "a Height far out", set(400, n))
		wantNoPriceWithAny(t, "a Length far out alone", set(n, 0))
		wantNoPriceWithAny(t, "a Height far out alone", set(0, n))
		wantNoPriceWithAny(t, "both far out", set(n, n))
		wantNoPriceWithAny(t, "both far out, together 0", set(n, -n))
	}
}

func TestPartiesWithACabinThatIsNone(t *testing.T) {
	set := func(class int, whole bool, berths int) func(*impl.Party) {
		return func(p *impl.Party) { p.Class, p.Whole, p.Berths = class, whole, berths }
	}
	for class := 1; class <= 3; class++ {
		wantNoPriceWithAny(t, "a Class alone", set(class, false, 0))
		for _, berths := range []int{-1, 1, 2, 3, 4, 5} {
			wantNoPriceWithAny(t, "a Whole with Berths", set(class, true, berths))
		}
		for _, berths := range []int{-1, 5, 6, 20} {
			wantNoPriceWithAny(t, "Berths out of their bounds", set(class, false, berths))
		}
	}
	for _, class := range []int{-1, 0, 4, 5} {
		wantNoPriceWithAny(t, "a Whole without a Class", set(class, true, 0))
		for berths := 1; berths <= 4; berths++ {
			wantNoPriceWithAny(t, "Berths without a Class", set(class, false, berths))
			wantNoPriceWithAny(t, "both without a Class", set(class, true, berths))
		}
	}
	for _, n := range append(numbersNoFareHas(), 10001) {
		wantNoPriceWithAny(t, "a Class far out", set(n, false, 1))
		wantNoPriceWithAny(t, "a Class far out, whole", set(n, true, 0))
		wantNoPriceWithAny(t, "a Class far out alone", set(n, false, 0))
		wantNoPriceWithAny(t, "Berths far out", set(2, false, n))
		wantNoPriceWithAny(t, "Berths far out, whole", set(2, true, n))
		wantNoPriceWithAny(t, "Berths far out alone", set(0, false, n))
		wantNoPriceWithAny(t, "both far out", set(n, false, n))
	}
}

func TestPartiesThatAreGoodAtTheEdge(t *testing.T) {
	for what, p := range map[string]impl.Party{
		"the least people":          people(1),
		"the most people":           people(20),
		"the least car":             withCar(people(1), 1, 1),
		"the longest car":           withCar(people(1), 2000, 1),
		"the highest car":           withCar(people(20), 1, 500),
		"the greatest car":          withCar(people(20), 2000, 500),
		"the least class":           withBerths(people(1), 1, 1),
		"the greatest class":        withBerths(people(20), 3, 4),
		"the least class, whole":    withWhole(people(20), 1),
		"the greatest class, whole": withWhole(people(1), 3),
		"the most of all":           withBerths(withCar(people(20), 2000, 500), 3, 4),
	} {
		if !impl.GoodParty(p) || !goodPartyByWords(p) {
			t.Error(what)
		}
	}
	wantPrice(t, withBerths(withCar(people(20), 2000, 500), 3, 4), 3, 4079) // 4770 less 238, then less 453
}

// All parties out of numbers at and beside every bound, good or not.
func TestPartiesAtEveryBoundAgainstTheWords(t *testing.T) {
	good, priced := 0, 0
	each := func(p impl.Party) {
		for legs := 0; legs <= 4; legs++ {
			got := checkFares(t, p, legs)
			good, priced = good+count(got.Good), priced+count(got.PriceOk)
		}
	}
	for _, many := range []int{-1, 0, 1, 7, 8, 20, 21} {
		for _, length := range []int{-1, 0, 1, 450, 601, 2000, 2001} {
			for _, height := range []int{-1, 0, 1, 220, 221, 500, 501} {
				for class := -1; class <= 4; class++ {
					for berths := -1; berths <= 5; berths++ {
						p := withCar(people(many), length, height)
						each(withBerths(p, class, berths))
						p.Class, p.Whole, p.Berths = class, true, berths
						each(p)
					}
				}
			}
		}
	}
	if good == 0 || priced*5 != good*3 {
		t.Error(good, priced)
	}
}

func TestLegsOutOfTheirBounds(t *testing.T) {
	for _, legs := range append(numbersNoFareHas(), 0, -1, 4, 5, 6, 256+1, 10001) {
		for _, p := range []impl.Party{people(1), people(8), withCar(people(2), 601, 221), withWhole(people(20), 3), {}} {
			if price, ok := impl.PriceOf(p, legs); price != 0 || ok {
				t.Errorf("%+v, %d legs: %d, %v", p, legs, price, ok)
			}
		}
	}
	wantPrice(t, people(1), impl.MaxLegs, 108)
}

func TestFaresOfNoCar(t *testing.T) {
	for _, n := range append(numbersNoFareHas(), 0, -1) {
		for _, good := range []int{1, 200, 450, 500} {
			wantCarFare(t, n, good, 0)
			wantCarFare(t, good, n, 0)
		}
		wantCarFare(t, n, n, 0)
		wantCarFare(t, n, -n, 0)
	}
	for _, length := range []int{2001, 2100, 10001} {
		wantCarFare(t, length, 1, 0)
		wantCarFare(t, length, 221, 0)
		wantCarFare(t, length, 501, 0)
	}
	for _, height := range []int{501, 600, 10001} {
		wantCarFare(t, 1, height, 0)
		wantCarFare(t, 2000, height, 0)
	}
	wantCarFare(t, 2000, 500, 470)
}

func TestFaresOfNoCabin(t *testing.T) {
	far := append(numbersNoFareHas(), 10001)
	for _, class := range append(slices.Clone(far), 0, -1, 4, 5) {
		wantCabinFare(t, class, true, 0, 0)
		for berths := -1; berths <= 5; berths++ {
			wantCabinFare(t, class, false, berths, 0)
			wantCabinFare(t, class, true, berths, 0)
		}
		wantCabinFare(t, class, false, class, 0)
		wantCabinFare(t, class, true, class, 0)
	}
	for class := 1; class <= 3; class++ {
		for _, berths := range append(slices.Clone(far), 0, -1, 5, 6) {
			wantCabinFare(t, class, false, berths, 0)
		}
		for _, berths := range append(slices.Clone(far), -1, 1, 2, 3, 4, 5) {
			wantCabinFare(t, class, true, berths, 0)
		}
	}
}

func TestRefundsOutOfTheirBounds(t *testing.T) {
	far := numbersNoFareHas()
	for _, left := range []int{-10000, -1, 0, 19, 20, 99, 100, 10000} {
		for _, price := range append(slices.Clone(far), -1, -2, 1000001, 1000002) {
			if price < 0 || price > 1000000 {
				wantRefund(t, price, left, 0)
			}
		}
	}
	for _, price := range []int{0, 1, 101, 1000000} {
		for _, left := range append(slices.Clone(far), 10001, 10002, -10001, -10002) {
			wantRefund(t, price, left, 0)
		}
	}
	for _, n := range far {
		wantRefund(t, n, n, 0)
		wantRefund(t, n, -n, refundByWords(n, -n))
	}
	wantRefund(t, 1000000, 10000, 1000000)
	wantRefund(t, 1000000, 20, 500000)
}

// What was asked ahead is not to be seen in an answer.
func TestFaresHangOnNothingElse(t *testing.T) {
	var first []fareAnswers
	all := append(partiesForFares(7), partiesForFares(8)...)
	for _, p := range all {
		first = append(first, askFares(p, 3))
	}
	for i := len(all) - 1; i >= 0; i-- {
		askFares(impl.Party{People: -1, Length: i, Class: i}, i)
		impl.RefundOf(i, i)
		if again := askFares(all[i], 3); again != first[i] {
			t.Fatalf("%+v: %+v, and then %+v", all[i], first[i], again)
		}
	}
}

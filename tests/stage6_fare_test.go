package tests

import (
	"testing"

	"loop.example/g00084/impl"
)

func wantPrice(t *testing.T, p impl.Party, legs, want int) {
	t.Helper()
	if !impl.GoodParty(p) {
		t.Errorf("not good: %+v", p)
	}
	if got, ok := impl.PriceOf(p, legs); got != want || !ok {
		t.Errorf("%+v, %d legs: %d, %v, want %d", p, legs, got, ok, want)
	}
}

func wantCarFare(t *testing.T, length, height, want int) {
	t.Helper()
	if got := impl.CarFare(length, height); got != want {
		t.Errorf("a car of %d/%d: %d, want %d", length, height, got, want)
	}
}

func wantCabinFare(t *testing.T, class int, whole bool, berths, want int) {
	t.Helper()
	if got := impl.CabinFare(class, whole, berths); got != want {
		t.Errorf("class %d, whole %v, %d berths: %d, want %d", class, whole, berths, got, want)
	}
}

func wantRefund(t *testing.T, price, left, want int) {
	t.Helper()
	if got := impl.RefundOf(price, left); got != want {
		t.Errorf("of %d with %d left: %d, want %d", price, left, got, want)
	}
}

func TestAPartyWithoutCarAndCabin(t *testing.T) {
	wantPrice(t, people(1), 1, 40)
	wantPrice(t, people(2), 1, 80)
	wantPrice(t, people(7), 1, 280)
	wantPrice(t, people(8), 1, 304)
	wantPrice(t, people(20), 1, 760)
}

func TestAPartyWithACar(t *testing.T) {
	wantPrice(t, withCar(people(1), 450, 220), 1, 40+60)
	wantPrice(t, withCar(people(3), 451, 220), 1, 120+90)
	wantPrice(t, withCar(people(3), 601, 221), 1, 120+145)
	wantPrice(t, withCar(people(7), 2000, 500), 1, 280+470)
}

func TestAPartyWithACabin(t *testing.T) {
	wantPrice(t, withBerths(people(1), 1, 1), 1, 40+30)
	wantPrice(t, withBerths(people(2), 2, 2), 1, 80+100)
	wantPrice(t, withBerths(people(4), 3, 4), 1, 160+320)
	wantPrice(t, withWhole(people(1), 1), 1, 40+90)
	wantPrice(t, withWhole(people(4), 3), 1, 160+240)
}

// People and berths need not be as many: the cabin costs by its berths alone.
func TestAPartyWithMoreOrFewerBerthsThanPeople(t *testing.T) {
	wantPrice(t, withBerths(people(7), 1, 1), 1, 280+30)
	wantPrice(t, withBerths(people(1), 2, 4), 1, 40+200)
	wantPrice(t, withWhole(people(7), 2), 1, 280+150)
}

func TestAPartyWithACarAndACabin(t *testing.T) {
	wantPrice(t, withBerths(withCar(people(2), 700, 250), 2, 2), 1, 80+145+100)
	wantPrice(t, withWhole(withCar(people(5), 450, 150), 3), 1, 200+60+240)
	wantPrice(t, withBerths(withCar(people(7), 2000, 500), 3, 4), 1, 280+470+320)
	wantPrice(t, withWhole(withCar(people(1), 1, 1), 1), 1, 40+60+90)
}

func TestACarsFareAtEachLength(t *testing.T) {
	for length, want := range map[int]int{1: 60, 2: 60, 449: 60, 450: 60, 451: 90, 452: 90, 599: 90, 600: 90, 601: 115, 602: 115, 699: 115, 700: 115, 701: 140, 800: 140, 801: 165, 1900: 415, 1901: 440, 1999: 440, 2000: 440} {
		wantCarFare(t, length, 1, want)
		wantCarFare(t, length, 220, want)
		wantCarFare(t, length, 221, want+30)
	}
}

func TestEach100BegunAbove600(t *testing.T) {
	for begun := 1; begun <= 14; begun++ {
		want := 90 + 25*begun
		wantCarFare(t, 600+100*begun-99, 200, want)
		wantCarFare(t, 600+100*begun-50, 200, want)
		wantCarFare(t, 600+100*begun, 200, want)
	}
}

func TestACarsFareAtEachHeight(t *testing.T) {
	for length, low := range map[int]int{1: 60, 450: 60, 451: 90, 600: 90, 601: 115, 2000: 440} {
		for _, height := range []int{1, 2, 219, 220} {
			wantCarFare(t, length, height, low)
		}
		for _, height := range []int{221, 222, 499, 500} {
			wantCarFare(t, length, height, low+30)
		}
	}
}

func TestABerthsFareOfEachClass(t *testing.T) {
	for class, berth := range map[int]int{1: 30, 2: 50, 3: 80} {
		wantCabinFare(t, class, false, 1, berth)
		wantCabinFare(t, class, false, 2, 2*berth)
		wantCabinFare(t, class, false, 3, 3*berth)
		wantCabinFare(t, class, false, 4, 4*berth)
		wantCabinFare(t, class, true, 0, 3*berth)
	}
}

func TestOneLegTwoAndThree(t *testing.T) {
	both := withBerths(withCar(people(2), 700, 250), 2, 2)
	wantPrice(t, both, 1, 325)
	wantPrice(t, both, 2, 650)
	wantPrice(t, both, 3, 878) // 975 less 97
	wantPrice(t, people(1), 1, 40)
	wantPrice(t, people(1), 2, 80)
	wantPrice(t, people(1), 3, 108)
	wantPrice(t, people(8), 1, 304)
	wantPrice(t, people(8), 2, 608)
	wantPrice(t, people(8), 3, 821) // 960 less 48, then less 91
}

func TestSevenPeopleAndEight(t *testing.T) {
	wantPrice(t, withCar(people(7), 601, 200), 1, 395)
	wantPrice(t, withCar(people(8), 601, 200), 1, 414) // a twentieth of 435 is 21 and three quarters
	wantPrice(t, withCar(people(8), 601, 200), 2, 827) // of 870 it is 43 and a half: not of each leg its own
	wantPrice(t, withBerths(people(7), 1, 1), 1, 310)
	wantPrice(t, withBerths(people(8), 1, 1), 1, 333) // of 350 it is 17 and a half
	wantPrice(t, withBerths(people(9), 1, 1), 1, 371) // of 390 it is 19 and a half
	wantPrice(t, withBerths(people(20), 2, 1), 1, 808)
}

func TestThreeLegsWhereTheTenthIsNotWhole(t *testing.T) {
	wantPrice(t, withCar(people(1), 601, 200), 3, 419) // 465 less 46
	wantPrice(t, withCar(people(2), 601, 221), 3, 608) // 675 less 67: not of each leg its own
	wantPrice(t, withCar(people(2), 701, 221), 3, 675) // 750 less 75: here it is whole
	wantPrice(t, withCar(people(1), 601, 200), 2, 310) // nothing less of two
}

func TestTheTwentiethIsTakenAheadOfTheTenth(t *testing.T) {
	wantPrice(t, withCar(people(8), 601, 200), 3, 1116) // 1305 less 65, then less 124; the other way round 1117
	differ := 0
	for many := 8; many <= 20; many++ {
		for _, p := range partiesForFares(many) {
			sum := sumByWords(p, 3)
			want := lessOneOf(lessOneOf(sum, 20), 10)
			wantPrice(t, p, 3, want)
			differ += count(want != lessOneOf(lessOneOf(sum, 10), 20))
		}
	}
	if differ == 0 {
		t.Error("no party tells one order from the other")
	}
}

func TestAPriceIsNeverMoreThanTheSumOfItsParts(t *testing.T) {
	for many := 1; many <= 20; many++ {
		for _, p := range partiesForFares(many) {
			for legs := 1; legs <= 3; legs++ {
				sum := legs * (40*many + impl.CarFare(p.Length, p.Height) + impl.CabinFare(p.Class, p.Whole, p.Berths))
				price, ok := impl.PriceOf(p, legs)
				lesser := many >= 8 || legs == 3
				if !ok || price > sum || !lesser && price != sum || lesser && price == sum || price <= 0 {
					t.Fatalf("%+v, %d legs: %d, %v, the parts are %d", p, legs, price, ok, sum)
				}
			}
		}
	}
}

func TestOneMoreCostsNoLess(t *testing.T) {
	less := 0
	for many := 1; many < 20; many++ {
		for _, p := range partiesForFares(many) {
			more := p
			more.People++
			for legs := 1; legs <= 3; legs++ {
				price, _ := impl.PriceOf(p, legs)
				next, ok := impl.PriceOf(more, legs)
				if many == 7 {
					less += count(next < price)
				} else if !ok || next < price {
					t.Fatalf("%+v, %d legs: %d, and one more costs %d, %v", p, legs, price, next, ok)
				}
			}
		}
	}
	if less == 0 {
		t.Error("nowhere do eight cost less than seven")
	}
	wantPrice(t, withBerths(withCar(people(7), 2000, 500), 3, 4), 1, 1070)
	wantPrice(t, withBerths(withCar(people(8), 2000, 500), 3, 4), 1, 1055)
}

func TestWhatIsGivenBack(t *testing.T) {
	for left, want := range map[int]int{10000: 325, 9999: 325, 101: 325, 100: 325, 99: 162, 98: 162, 50: 162, 21: 162, 20: 162, 19: 0, 18: 0, 1: 0, 0: 0, -1: 0, -20: 0, -99: 0, -100: 0, -9999: 0, -10000: 0} {
		wantRefund(t, 325, left, want)
	}
}

func TestHalfOfEvenAndOddPrices(t *testing.T) {
	for price, half := range map[int]int{0: 0, 1: 0, 2: 1, 3: 1, 100: 50, 101: 50, 999999: 499999, 1000000: 500000} {
		wantRefund(t, price, 100, price)
		wantRefund(t, price, 99, half)
		wantRefund(t, price, 20, half)
		wantRefund(t, price, 19, 0)
	}
}

func checkFares(t *testing.T, p impl.Party, legs int) fareAnswers {
	t.Helper()
	got, want := askFares(p, legs), faresByWords(p, legs)
	if got != want {
		t.Fatalf("%+v, %d legs: got %+v, want %+v", p, legs, got, want)
	}
	return got
}

func TestGoodPartiesAgainstTheWords(t *testing.T) {
	for many := 1; many <= 20; many++ {
		for _, p := range partiesForFares(many) {
			for legs := 1; legs <= 3; legs++ {
				if got := checkFares(t, p, legs); !got.Good || !got.PriceOk {
					t.Fatalf("%+v, %d legs: %+v", p, legs, got)
				}
			}
		}
	}
}

// All lengths there are and some beside them, with heights at their bounds.
func TestAllLengthsAgainstTheWords(t *testing.T) {
	for length := -3; length <= 2103; length++ {
		for _, height := range []int{-1, 0, 1, 219, 220, 221, 500, 501} {
			checkFares(t, withCar(people(3), length, height), 1)
			checkFares(t, withWhole(withCar(people(8), length, height), 3), 3)
		}
	}
	for height := -3; height <= 523; height++ {
		for _, length := range []int{-1, 0, 1, 450, 451, 600, 601, 2000, 2001} {
			checkFares(t, withCar(people(3), length, height), 1)
			checkFares(t, withBerths(withCar(people(8), length, height), 2, 3), 3)
		}
	}
}

func TestAllTimesLeftAgainstTheWords(t *testing.T) {
	for left := -10005; left <= 10005; left++ {
		for _, price := range []int{-1, 0, 1, 2, 999, 1000, 999999, 1000000, 1000001} {
			wantRefund(t, price, left, refundByWords(price, left))
		}
	}
	for price := -5; price <= 1000005; price += 7 {
		for _, left := range []int{-1, 0, 19, 20, 99, 100, 10000, 10001} {
			wantRefund(t, price, left, refundByWords(price, left))
		}
	}
}

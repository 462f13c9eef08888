package tests

import "loop.example/g00084/impl"

// people is a party without a car and without a cabin; with a car, berths or a whole cabin it is another party.
func people(many int) impl.Party { return impl.Party{People: many} }

func withCar(p impl.Party, length, height int) impl.Party {
	p.Length, p.Height = length, height
	return p
}

func withBerths(p impl.Party, class, berths int) impl.Party {
	p.Class, p.Whole, p.Berths = class, false, berths
	return p
}

func withWhole(p impl.Party, class int) impl.Party {
	p.Class, p.Whole, p.Berths = class, true, 0
	return p
}

func carByWords(length, height int) bool {
	return length >= 1 && length <= 2000 && height >= 1 && height <= 500
}

func cabinByWords(class int, whole bool, berths int) bool {
	if class < 1 || class > 3 {
		return false
	}
	return whole && berths == 0 || !whole && berths >= 1 && berths <= 4
}

// goodPartyByWords is what chapter 6 calls a good party.
func goodPartyByWords(p impl.Party) bool {
	noCar := p.Length == 0 && p.Height == 0
	noCabin := p.Class == 0 && !p.Whole && p.Berths == 0
	return p.People >= 1 && p.People <= 20 && (noCar || carByWords(p.Length, p.Height)) && (noCabin || cabinByWords(p.Class, p.Whole, p.Berths))
}

// carFareByWords begins one 100 after the other.
func carFareByWords(length, height int) int {
	if !carByWords(length, height) {
		return 0
	}
	fare := 60
	if length > 450 {
		fare = 90
	}
	for begun := 600; begun < length; begun += 100 {
		fare += 25
	}
	if height > 220 {
		fare += 30
	}
	return fare
}

func cabinFareByWords(class int, whole bool, berths int) int {
	if !cabinByWords(class, whole, berths) {
		return 0
	}
	berth := map[int]int{1: 30, 2: 50, 3: 80}[class]
	if whole {
		return berth + berth + berth
	}
	fare := 0
	for range berths {
		fare += berth
	}
	return fare
}

// sumByWords is the sum of the parts of a good party, leg by leg.
func sumByWords(p impl.Party, legs int) int {
	sum := 0
	for range legs {
		for range p.People {
			sum += 40
		}
		sum += carFareByWords(p.Length, p.Height) + cabinFareByWords(p.Class, p.Whole, p.Berths)
	}
	return sum
}

// lessOneOf takes the greatest whole number away that is no more than the part.
func lessOneOf(price, parts int) int {
	part := 0
	for (part+1)*parts <= price {
		part++
	}
	return price - part
}

func priceByWords(p impl.Party, legs int) (int, bool) {
	if !goodPartyByWords(p) || legs < 1 || legs > 3 {
		return 0, false
	}
	price := sumByWords(p, legs)
	if p.People >= 8 {
		price = lessOneOf(price, 20)
	}
	if legs == 3 {
		price = lessOneOf(price, 10)
	}
	return price, true
}

func refundByWords(price, left int) int {
	if price < 0 || price > 1000000 || left < -10000 || left > 10000 || left < 20 {
		return 0
	}
	if left < 100 {
		return price >> 1
	}
	return price
}

// fareAnswers is all that the functions of chapter 6 that a party has something for answer to it.
type fareAnswers struct {
	Good    bool
	Car     int
	Cabin   int
	Price   int
	PriceOk bool
}

func askFares(p impl.Party, legs int) fareAnswers {
	var r fareAnswers
	r.Good = impl.GoodParty(p)
	r.Car = impl.CarFare(p.Length, p.Height)
	r.Cabin = impl.CabinFare(p.Class, p.Whole, p.Berths)
	r.Price, r.PriceOk = impl.PriceOf(p, legs)
	return r
}

func faresByWords(p impl.Party, legs int) fareAnswers {
	var r fareAnswers
	r.Good = goodPartyByWords(p)
	r.Car = carFareByWords(p.Length, p.Height)
	r.Cabin = cabinFareByWords(p.Class, p.Whole, p.Berths)
	r.Price, r.PriceOk = priceByWords(p, legs)
	return r
}

// carsForFares are none, and cars on both sides of every bound of a fare.
func carsForFares() [][2]int {
	cars := [][2]int{{0, 0}}
	lengths := []int{1, 2, 449, 450, 451, 599, 600}
	for end := 700; end <= 2000; end += 100 {
		lengths = append(lengths, end-99, end-1, end)
	}
	for _, length := range lengths {
		for _, height := range []int{1, 220, 221, 500} {
			cars = append(cars, [2]int{length, height})
		}
	}
	return cars
}

// partiesForFares are good: so many people with every car of carsForFares, and every cabin or none.
func partiesForFares(many int) []impl.Party {
	var all []impl.Party
	for _, car := range carsForFares() {
		p := withCar(people(many), car[0], car[1])
		all = append(all, p)
		for class := 1; class <= 3; class++ {
			all = append(all, withWhole(p, class))
			for berths := 1; berths <= 4; berths++ {
				all = append(all, withBerths(p, class, berths))
			}
		}
	}
	return all
}

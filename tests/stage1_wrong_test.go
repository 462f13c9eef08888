package tests

import (
	"math"
	"slices"
	"testing"

	"loop.example/g00084/impl"
)

func TestArenasThatAreNotGood(t *testing.T) {
	tooMany := impl.Arena{Slots: slices.Repeat([]impl.Slot{used(0, 1)}, impl.MaxSlots+1)}
	tooManyFree := impl.Arena{}
	for i := range impl.MaxSlots + 1 {
		tooManyFree.Slots = append(tooManyFree.Slots, unused(0))
		tooManyFree.Free = append(tooManyFree.Free, i)
	}
	cases := []struct {
		what string
		a    impl.Arena
	}{
		{"too many slots", tooMany},
		{"too many slots, all free", tooManyFree},
		{"age below 0, used", impl.Arena{Slots: []impl.Slot{used(-1, 1)}}},
		{"age below 0, not used", impl.Arena{Slots: []impl.Slot{unused(-1)}}},
		{"age below 0, not used, in Free", impl.Arena{Slots: []impl.Slot{unused(-1)}, Free: []int{0}}},
		{"age above MaxAge, used", impl.Arena{Slots: []impl.Slot{used(10, 1)}}},
		{"age above MaxAge, not used", impl.Arena{Slots: []impl.Slot{unused(10)}}},
		{"the greatest age", impl.Arena{Slots: []impl.Slot{unused(math.MaxInt)}}},
		{"the least age", impl.Arena{Slots: []impl.Slot{unused(math.MinInt)}, Free: []int{0}}},
		{"used at MaxAge", impl.Arena{Slots: []impl.Slot{used(9, 1)}}},
		{"not used with a value", impl.Arena{Slots: []impl.Slot{{Value: 1}}, Free: []int{0}}},
		{"the oldest with a value", impl.Arena{Slots: []impl.Slot{{Age: 9, Value: -1}}}},
		{"a free slot is not in Free", impl.Arena{Slots: []impl.Slot{unused(0), unused(8)}, Free: []int{0}}},
		{"a used slot in Free", impl.Arena{Slots: []impl.Slot{used(0, 1)}, Free: []int{0}}},
		{"an oldest slot in Free", impl.Arena{Slots: []impl.Slot{unused(9)}, Free: []int{0}}},
		{"a slot twice in Free", impl.Arena{Slots: []impl.Slot{unused(0)}, Free: []int{0, 0}}},
		{"a slot twice in Free, another not", impl.Arena{Slots: []impl.Slot{unused(0), unused(0)}, Free: []int{1, 1}}},
		{"no such slot in Free", impl.Arena{Slots: []impl.Slot{unused(0)}, Free: []int{0, 1}}},
		{"below 0 in Free", impl.Arena{Slots: []impl.Slot{unused(0)}, Free: []int{-1}}},
		{"Free without slots", impl.Arena{Free: []int{0}}},
		{"the least and greatest in Free", impl.Arena{Slots: []impl.Slot{unused(0)}, Free: []int{0, math.MinInt, math.MaxInt}}},
		{"MaxSlots in Free of full slots", impl.Arena{Slots: slices.Repeat([]impl.Slot{used(0, 1)}, impl.MaxSlots), Free: []int{impl.MaxSlots}}},
		{"a Free much too long", impl.Arena{Slots: []impl.Slot{unused(0)}, Free: make([]int, 100000)}},
		{"slots much too many", impl.Arena{Slots: make([]impl.Slot, 100000)}},
	}
	for _, c := range cases {
		for _, h := range []impl.Handle{{}, {Slot: -1}, {Slot: 1, Age: 9}} {
			want := answers{PutCode: impl.ArenaBad, GetCode: impl.ArenaBad, SetCode: impl.ArenaBad, DropCode: impl.ArenaBad}
			if r := askAll(c.a, h, 3); !sameAnswers(r, want) {
				t.Errorf("%s, %+v: %+v", c.what, h, r)
			}
		}
	}
}

func TestArenasThatAreGoodAtTheEdge(t *testing.T) {
	worn := impl.Arena{Slots: slices.Repeat([]impl.Slot{unused(impl.MaxAge)}, impl.MaxSlots)}
	var free impl.Arena
	for i := range impl.MaxSlots {
		free.Slots = append(free.Slots, unused(8))
		free.Free = append(free.Free, (i*7+3)%impl.MaxSlots)
	}
	cases := []struct {
		what string
		a    impl.Arena
	}{
		{"nothing", impl.Arena{}},
		{"empty lists", impl.Arena{Slots: []impl.Slot{}, Free: []int{}}},
		{"used at age 8", impl.Arena{Slots: []impl.Slot{used(8, 0)}}},
		{"not used at age 8", impl.Arena{Slots: []impl.Slot{unused(8)}, Free: []int{0}}},
		{"full", fullArena(t)},
		{"worn out", worn},
		{"all free, in any order", free},
	}
	for _, c := range cases {
		if !impl.GoodArena(c.a) {
			t.Error(c.what)
		}
	}
}

func TestHandlesThatAreWrong(t *testing.T) {
	a := impl.Arena{Slots: []impl.Slot{used(2, 5), unused(0), unused(9)}, Free: []int{1}}
	numbers := []int{math.MinInt, -100, -1, 3, 4, impl.MaxSlots, math.MaxInt}
	for _, n := range numbers {
		for _, age := range []int{math.MinInt, -1, 0, 2, 9, math.MaxInt} {
			h := impl.Handle{Slot: n, Age: age}
			r := askAll(a, h, 1)
			if r.GetCode != impl.ArenaNone || !sameAnswers(r, askByWords(a, h, 1)) {
				t.Errorf("%+v: %+v", h, r)
			}
		}
	}
	for slot := range a.Slots {
		for _, age := range []int{math.MinInt, -9, -1, 10, 11, math.MaxInt} {
			h := impl.Handle{Slot: slot, Age: age}
			r := askAll(a, h, 1)
			if r.GetCode != impl.ArenaOld || !sameAnswers(r, askByWords(a, h, 1)) {
				t.Errorf("%+v: %+v", h, r)
			}
		}
	}
}

// lists is all lists of the items up to a length.
func lists[T any](items []T, most int) [][]T {
	all := [][]T{nil}
	last := all
	for range most {
		var next [][]T
		for _, l := range last {
			for _, x := range items {
				next = append(next, append(slices.Clone(l), x))
			}
		}
		all = append(all, next...)
		last = next
	}
	return all
}

func TestSmallArenasAllOfThem(t *testing.T) {
	var kinds []impl.Slot
	for _, age := range []int{-1, 0, 8, 9, 10} {
		for _, value := range []int{0, 5} {
			kinds = append(kinds, impl.Slot{Age: age, Value: value}, impl.Slot{Age: age, Used: true, Value: value})
		}
	}
	handles := []impl.Handle{{}, {Age: 8}, {Age: 9}, {Slot: 1}, {Slot: 1, Age: 8}, {Slot: 2}, {Slot: -1, Age: -1}}
	good := 0
	for _, slots := range lists(kinds, 2) {
		for _, free := range lists([]int{-1, 0, 1, 2}, 3) {
			a := impl.Arena{Slots: slots, Free: free}
			if goodByWords(a) {
				good++
			}
			for _, h := range handles {
				if r, want := askAll(a, h, 4), askByWords(a, h, 4); !sameAnswers(r, want) {
					t.Fatalf("%+v %+v: got %+v, want %+v", a, h, r, want)
				}
			}
		}
	}
	if good == 0 {
		t.Error("no good arena among them")
	}
}

// withRoom has the same lists, with room behind their length that is filled with fill.
func withRoom(a impl.Arena, fill int) impl.Arena {
	slots := append(slices.Clone(a.Slots), slices.Repeat([]impl.Slot{used(fill, fill)}, 5)...)
	free := append(slices.Clone(a.Free), slices.Repeat([]int{fill}, 5)...)
	return impl.Arena{Slots: slots[:len(a.Slots)], Free: free[:len(a.Free)]}
}

// whole is an arena with the room behind its lists.
func whole(a impl.Arena) impl.Arena {
	return impl.Arena{Slots: a.Slots[:cap(a.Slots)], Free: a.Free[:cap(a.Free)]}
}

func scribble(a impl.Arena) {
	w := whole(a)
	for i := range w.Slots {
		w.Slots[i] = used(-7, -7)
	}
	for i := range w.Free {
		w.Free[i] = -7
	}
}

func arenasForMemory(t *testing.T) []impl.Arena {
	full := fullArena(t)
	holed, _ := impl.DropRecord(full, impl.Handle{Slot: 3})
	return []impl.Arena{
		{},
		{Slots: []impl.Slot{used(0, 1)}},
		{Slots: []impl.Slot{used(0, 1), unused(4), unused(0)}, Free: []int{2, 1}},
		{Slots: []impl.Slot{used(8, 1), unused(9)}},
		{Slots: []impl.Slot{used(0, 1), unused(1)}},
		{Slots: []impl.Slot{unused(9), used(0, 1)}, Free: []int{0}},
		full,
		holed,
	}
}

var handlesForMemory = []impl.Handle{{}, {Age: 8}, {Slot: 1}, {Slot: 1, Age: 4}, {Slot: 3}, {Slot: -1}, {Slot: 99, Age: 99}}

func copyAnswers(r answers) answers {
	r.Put, r.Set, r.Drop = copyArena(r.Put), copyArena(r.Set), copyArena(r.Drop)
	r.Values = slices.Clone(r.Values)
	return r
}

func TestNothingIsWrittenIntoAnArgument(t *testing.T) {
	for _, plain := range arenasForMemory(t) {
		for _, h := range handlesForMemory {
			a := withRoom(plain, 66)
			was := copyArena(whole(a))
			r := askAll(a, h, 4)
			if !sameArena(whole(a), was) {
				t.Fatalf("written into: %+v %+v: %+v", plain, h, whole(a))
			}
			for _, answer := range []impl.Arena{r.Put, r.Set, r.Drop} {
				scribble(answer)
			}
			for i := range r.Values {
				r.Values[i] = -7
			}
			if !sameArena(whole(a), was) {
				t.Fatalf("an answer shares memory with %+v %+v", plain, h)
			}
		}
	}
}

func TestAnswersStayWhenTheArgumentChanges(t *testing.T) {
	for _, plain := range arenasForMemory(t) {
		for _, h := range handlesForMemory {
			a := withRoom(plain, 66)
			r := askAll(a, h, 4)
			was := copyAnswers(r)
			scribble(a)
			if !sameAnswers(r, was) {
				t.Fatalf("an answer changed with its argument: %+v %+v", plain, h)
			}
		}
	}
}

func TestAnswersOfOneArenaShareNothing(t *testing.T) {
	for _, plain := range arenasForMemory(t) {
		for _, h := range handlesForMemory {
			first, second := askAll(plain, h, 4), askAll(plain, h, 4)
			was := copyAnswers(second)
			for _, answer := range []impl.Arena{first.Put, first.Set, first.Drop} {
				scribble(answer)
			}
			if !sameAnswers(second, was) {
				t.Fatalf("two answers share memory: %+v %+v", plain, h)
			}
		}
	}
}

func TestRoomBehindAListIsNotRead(t *testing.T) {
	for _, plain := range arenasForMemory(t) {
		for _, h := range handlesForMemory {
			want := askByWords(plain, h, 4)
			for _, fill := range []int{0, 1, 66} {
				r := askAll(withRoom(plain, fill), h, 4)
				if !sameAnswers(r, want) {
					t.Fatalf("room filled with %d: %+v %+v: %+v", fill, plain, h, r)
				}
			}
			r := askAll(withRoom(plain, 66), h, 4)
			for _, answer := range []impl.Arena{r.Put, r.Set, r.Drop} {
				w := whole(answer)
				if slices.Contains(w.Slots, used(66, 66)) || slices.Contains(w.Free, 66) {
					t.Fatalf("room was handed out: %+v %+v: %+v", plain, h, w)
				}
			}
		}
	}
}

func TestEmptyAndNilListsAreTheSame(t *testing.T) {
	empty := impl.Arena{Slots: []impl.Slot{}, Free: []int{}}
	if r, want := askAll(empty, impl.Handle{}, 4), askAll(impl.Arena{}, impl.Handle{}, 4); !sameAnswers(r, want) {
		t.Error(r, want)
	}
}

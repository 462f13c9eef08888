package tests

import (
	"maps"
	"math"
	"math/rand"
	"slices"
	"testing"

	"loop.example/g00084/impl"
)

func used(age, value int) impl.Slot { return impl.Slot{Age: age, Used: true, Value: value} }
func unused(age int) impl.Slot      { return impl.Slot{Age: age} }

func wantArena(t *testing.T, what string, got, want impl.Arena) {
	t.Helper()
	if !sameArena(got, want) {
		t.Errorf("%s: got %+v, want %+v", what, got, want)
	}
}

// fullArena has MaxSlots used slots with the values 100, 101 and so on.
func fullArena(t *testing.T) impl.Arena {
	t.Helper()
	var a impl.Arena
	for i := range impl.MaxSlots {
		b, h, code := impl.PutRecord(a, 100+i)
		if code != impl.ArenaOk || h != (impl.Handle{Slot: i}) {
			t.Fatal("put", i, h, code)
		}
		a = b
	}
	return a
}

func TestArenaConstants(t *testing.T) {
	if impl.MaxSlots != 20 || impl.MaxAge != 9 {
		t.Error(impl.MaxSlots, impl.MaxAge)
	}
	codes := []int{impl.ArenaOk, impl.ArenaBad, impl.ArenaFull, impl.ArenaOld, impl.ArenaNone}
	if !slices.Equal(codes, []int{0, 1, 2, 3, 4}) {
		t.Error(codes)
	}
}

func TestPutGetSetDrop(t *testing.T) {
	a, first, code := impl.PutRecord(impl.Arena{}, 7)
	if first != (impl.Handle{}) || code != impl.ArenaOk {
		t.Fatal(first, code)
	}
	a, second, code := impl.PutRecord(a, math.MinInt)
	if second != (impl.Handle{Slot: 1}) || code != impl.ArenaOk {
		t.Fatal(second, code)
	}
	wantArena(t, "put twice", a, impl.Arena{Slots: []impl.Slot{used(0, 7), used(0, math.MinInt)}})
	if v, code := impl.GetRecord(a, second); v != math.MinInt || code != impl.ArenaOk {
		t.Error("get", v, code)
	}
	a, code = impl.SetRecord(a, first, math.MaxInt)
	wantArena(t, "set", a, impl.Arena{Slots: []impl.Slot{used(0, math.MaxInt), used(0, math.MinInt)}})
	if code != impl.ArenaOk {
		t.Error("set", code)
	}
	if v, code := impl.GetRecord(a, first); v != math.MaxInt || code != impl.ArenaOk {
		t.Error("get behind set", v, code)
	}
	a, code = impl.DropRecord(a, first)
	wantArena(t, "drop", a, impl.Arena{Slots: []impl.Slot{unused(1), used(0, math.MinInt)}, Free: []int{0}})
	if code != impl.ArenaOk {
		t.Error("drop", code)
	}
	if l, ok := impl.RecordsIn(a); !ok || !slices.Equal(l, []int{math.MinInt}) {
		t.Error("records", l, ok)
	}
}

func TestValueNoughtIsARecord(t *testing.T) {
	a, h, _ := impl.PutRecord(impl.Arena{}, 0)
	if v, code := impl.GetRecord(a, h); v != 0 || code != impl.ArenaOk {
		t.Error(v, code)
	}
	if l, ok := impl.RecordsIn(a); !ok || !slices.Equal(l, []int{0}) {
		t.Error(l, ok)
	}
}

func TestRecordsInOrderOfSlots(t *testing.T) {
	a := impl.Arena{Slots: []impl.Slot{used(3, 9), unused(2), used(0, -4), unused(9), used(8, 9)}, Free: []int{1}}
	if l, ok := impl.RecordsIn(a); !ok || !slices.Equal(l, []int{9, -4, 9}) {
		t.Error(l, ok)
	}
	if l, ok := impl.RecordsIn(impl.Arena{}); !ok || len(l) != 0 {
		t.Error("empty arena", l, ok)
	}
}

func TestHandleOfADroppedRecord(t *testing.T) {
	a, h, _ := impl.PutRecord(impl.Arena{}, 7)
	a, _ = impl.DropRecord(a, h)
	if v, code := impl.GetRecord(a, h); v != 0 || code != impl.ArenaOld {
		t.Error("get dropped", v, code)
	}
	next := impl.Handle{Age: 1}
	if v, code := impl.GetRecord(a, next); v != 0 || code != impl.ArenaNone {
		t.Error("get ahead of the put", v, code)
	}
	a, again, _ := impl.PutRecord(a, 8)
	if again != next {
		t.Error("slot used again", again)
	}
	if b, code := impl.SetRecord(a, h, 1); code != impl.ArenaOld || !sameArena(a, b) {
		t.Error("set by the old handle", b, code)
	}
	if b, code := impl.DropRecord(a, h); code != impl.ArenaOld || !sameArena(a, b) {
		t.Error("drop by the old handle", b, code)
	}
	if v, code := impl.GetRecord(a, again); v != 8 || code != impl.ArenaOk {
		t.Error("get by the new handle", v, code)
	}
}

func TestFreeIsUsedFromItsEnd(t *testing.T) {
	a := impl.Arena{Slots: []impl.Slot{unused(4), unused(0), used(1, 5), unused(8)}, Free: []int{1, 3, 0}}
	wants := []impl.Handle{{Slot: 0, Age: 4}, {Slot: 3, Age: 8}, {Slot: 1, Age: 0}, {Slot: 4, Age: 0}}
	for i, want := range wants {
		b, h, code := impl.PutRecord(a, 50+i)
		if h != want || code != impl.ArenaOk {
			t.Fatalf("put %d: %+v %d", i, h, code)
		}
		a = b
	}
	wantArena(t, "all free used", a, impl.Arena{Slots: []impl.Slot{used(4, 50), used(0, 52), used(1, 5), used(8, 51), used(0, 53)}})
	a, _ = impl.DropRecord(a, impl.Handle{Slot: 2, Age: 1})
	a, _ = impl.DropRecord(a, impl.Handle{Slot: 4})
	a, _ = impl.DropRecord(a, impl.Handle{Slot: 1})
	if !slices.Equal(a.Free, []int{2, 4, 1}) {
		t.Error("dropped ones go behind Free", a.Free)
	}
}

func TestSlotThatReachesMaxAge(t *testing.T) {
	var a impl.Arena
	for age := range impl.MaxAge {
		b, h, code := impl.PutRecord(a, age)
		if h != (impl.Handle{Age: age}) || code != impl.ArenaOk {
			t.Fatal("put at age", age, h, code)
		}
		a, _ = impl.DropRecord(b, h)
	}
	oldest := impl.Arena{Slots: []impl.Slot{unused(impl.MaxAge)}}
	wantArena(t, "oldest", a, oldest)
	if !impl.GoodArena(a) {
		t.Error("an arena with an oldest slot is good")
	}
	if v, code := impl.GetRecord(a, impl.Handle{Age: impl.MaxAge}); v != 0 || code != impl.ArenaNone {
		t.Error("get of the oldest", v, code)
	}
	if b, code := impl.DropRecord(a, impl.Handle{Age: impl.MaxAge}); code != impl.ArenaNone || !sameArena(b, oldest) {
		t.Error("drop of the oldest", b, code)
	}
	a, h, code := impl.PutRecord(a, 77)
	if h != (impl.Handle{Slot: 1}) || code != impl.ArenaOk {
		t.Error("put beside the oldest", h, code)
	}
	wantArena(t, "beside the oldest", a, impl.Arena{Slots: []impl.Slot{unused(impl.MaxAge), used(0, 77)}})
}

func TestFullArena(t *testing.T) {
	a := fullArena(t)
	if b, h, code := impl.PutRecord(a, 1); code != impl.ArenaFull || h != (impl.Handle{}) || !sameArena(a, b) {
		t.Error("put into a full one", b, h, code)
	}
	if _, code := impl.GetRecord(a, impl.Handle{Slot: impl.MaxSlots}); code != impl.ArenaNone {
		t.Error("get behind the last slot", code)
	}
	last := impl.Handle{Slot: impl.MaxSlots - 1}
	if v, code := impl.GetRecord(a, last); v != 100+impl.MaxSlots-1 || code != impl.ArenaOk {
		t.Error("get of the last slot", v, code)
	}
	a, _ = impl.DropRecord(a, last)
	a, h, code := impl.PutRecord(a, 2)
	if code != impl.ArenaOk || h != (impl.Handle{Slot: impl.MaxSlots - 1, Age: 1}) {
		t.Error("put where one was dropped", h, code)
	}
	var oldest impl.Arena
	for range impl.MaxSlots {
		oldest.Slots = append(oldest.Slots, unused(impl.MaxAge))
	}
	if b, h, code := impl.PutRecord(oldest, 1); code != impl.ArenaFull || h != (impl.Handle{}) || !sameArena(oldest, b) {
		t.Error("put where all are the oldest", b, h, code)
	}
}

func TestCodesInTheirOrder(t *testing.T) {
	good := impl.Arena{Slots: []impl.Slot{used(2, 5), unused(3), unused(9)}, Free: []int{1}}
	bad := copyArena(good)
	bad.Free = nil
	cases := []struct {
		what string
		a    impl.Arena
		h    impl.Handle
		code int
	}{
		{"live", good, impl.Handle{Slot: 0, Age: 2}, impl.ArenaOk},
		{"bad ahead of live", bad, impl.Handle{Slot: 0, Age: 2}, impl.ArenaBad},
		{"bad ahead of no slot", bad, impl.Handle{Slot: 3}, impl.ArenaBad},
		{"bad ahead of old", bad, impl.Handle{Slot: 0, Age: 1}, impl.ArenaBad},
		{"no slot, of any age", good, impl.Handle{Slot: 3, Age: 2}, impl.ArenaNone},
		{"below the slots", good, impl.Handle{Slot: -1, Age: 2}, impl.ArenaNone},
		{"older", good, impl.Handle{Slot: 0, Age: 1}, impl.ArenaOld},
		{"younger", good, impl.Handle{Slot: 0, Age: 3}, impl.ArenaOld},
		{"old ahead of not used", good, impl.Handle{Slot: 1, Age: 2}, impl.ArenaOld},
		{"not used", good, impl.Handle{Slot: 1, Age: 3}, impl.ArenaNone},
		{"oldest, another age", good, impl.Handle{Slot: 2, Age: 8}, impl.ArenaOld},
		{"oldest, its age", good, impl.Handle{Slot: 2, Age: 9}, impl.ArenaNone},
	}
	for _, c := range cases {
		if r := askAll(c.a, c.h, 6); r.GetCode != c.code || r.SetCode != c.code || r.DropCode != c.code {
			t.Errorf("%s: get %d, set %d, drop %d, want %d", c.what, r.GetCode, r.SetCode, r.DropCode, c.code)
		} else if !sameAnswers(r, askByWords(c.a, c.h, 6)) {
			t.Errorf("%s: %+v", c.what, r)
		}
	}
	full := fullArena(t)
	full.Slots[0].Age = -1
	if _, _, code := impl.PutRecord(full, 1); code != impl.ArenaBad {
		t.Error("bad ahead of full", code)
	}
}

// history is what was put and dropped, kept beside an arena.
type history struct {
	arena   impl.Arena
	live    map[impl.Handle]int
	dropped map[impl.Handle]bool
}

func (y *history) put(t *testing.T, value int) {
	a, h, code := impl.PutRecord(y.arena, value)
	want, handle, wantCode := putByWords(y.arena, value)
	if code != wantCode || h != handle || !sameArena(a, want) {
		t.Fatalf("put: %+v %+v %d, want %+v %+v %d", a, h, code, want, handle, wantCode)
	}
	y.arena = a
	if code != impl.ArenaOk {
		return
	}
	if _, old := y.live[h]; old || y.dropped[h] {
		t.Fatal("a handle came twice", h)
	}
	y.live[h] = value
}

func (y *history) set(t *testing.T, h impl.Handle, value int) {
	a, code := impl.SetRecord(y.arena, h, value)
	if code != impl.ArenaOk {
		t.Fatal("set of a live handle", h, code)
	}
	y.arena, y.live[h] = a, value
}

func (y *history) drop(t *testing.T, h impl.Handle) {
	a, code := impl.DropRecord(y.arena, h)
	if code != impl.ArenaOk {
		t.Fatal("drop of a live handle", h, code)
	}
	y.arena, y.dropped[h] = a, true
	delete(y.live, h)
}

func (y *history) liveInOrder() []impl.Handle {
	return slices.SortedFunc(maps.Keys(y.live), func(g, h impl.Handle) int { return g.Slot - h.Slot })
}

func (y *history) check(t *testing.T) {
	if !impl.GoodArena(y.arena) || !goodByWords(y.arena) {
		t.Fatalf("not good any more: %+v", y.arena)
	}
	var values []int
	for _, h := range y.liveInOrder() {
		values = append(values, y.live[h])
		if v, code := impl.GetRecord(y.arena, h); v != y.live[h] || code != impl.ArenaOk {
			t.Fatalf("live %+v: %d %d, want %d", h, v, code, y.live[h])
		}
	}
	if l, ok := impl.RecordsIn(y.arena); !ok || !slices.Equal(l, values) {
		t.Fatal("records", l, ok, values)
	}
	for h := range y.dropped {
		if v, code := impl.GetRecord(y.arena, h); v != 0 || code != impl.ArenaOld {
			t.Fatalf("dropped %+v: %d %d", h, v, code)
		}
	}
}

// Long enough that slots reach MaxAge and arenas are worn out.
func TestHistories(t *testing.T) {
	for seed := range int64(30) {
		r := rand.New(rand.NewSource(seed))
		y := &history{live: map[impl.Handle]int{}, dropped: map[impl.Handle]bool{}}
		for step := range 500 {
			live := y.liveInOrder()
			switch n := r.Intn(5); {
			case n < 2 || len(live) == 0:
				y.put(t, r.Intn(9)-4)
			case n == 2:
				y.set(t, live[r.Intn(len(live))], 1000+step)
			default:
				y.drop(t, live[r.Intn(len(live))])
			}
			y.check(t)
		}
		if seed == 0 && len(y.dropped) != impl.MaxSlots*impl.MaxAge {
			t.Error("the arena was not worn out", len(y.dropped))
		}
	}
}

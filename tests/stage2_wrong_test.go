package tests

import (
	"math"
	"slices"
	"testing"

	"loop.example/g00084/impl"
)

func locksThatAreNotGood() map[string][]impl.Lock {
	held := func(l ...impl.Asked) []impl.Lock { return []impl.Lock{{Key: 5, Held: l}} }
	queued := func(h []impl.Asked, q ...impl.Asked) []impl.Lock { return []impl.Lock{{Key: 5, Held: h, Queue: q}} }
	keys := func(l ...int) []impl.Lock {
		var locks []impl.Lock
		for _, k := range l {
			locks = append(locks, impl.Lock{Key: k, Held: asked(alone(3))})
		}
		return locks
	}
	one := asked(alone(3))
	return map[string][]impl.Lock{
		"too many":                       manyLocks(61, 0),
		"much too many":                  make([]impl.Lock, 100000),
		"a key below 0":                  keys(-1),
		"a key above the last":           keys(100001),
		"the least key":                  keys(math.MinInt, 4),
		"the greatest key":               keys(4, math.MaxInt),
		"a key twice":                    keys(4, 5, 5),
		"keys that fall":                 keys(4, 6, 5),
		"nobody holds it":                held(),
		"nobody holds it, one waits":     queued(nil, alone(3)),
		"nobody holds it, shared waits":  queued(nil, shared(3)),
		"held by no task":                held(alone(-1)),
		"held by a task too great":       held(alone(12)),
		"held by the greatest number":    held(shared(0), shared(math.MaxInt)),
		"held by the least number":       held(shared(math.MinInt), shared(0)),
		"held twice by one":              held(shared(3), shared(3)),
		"holders that fall":              held(shared(3), shared(2)),
		"two hold it, neither shared":    held(alone(3), alone(4)),
		"two hold it, the first shared":  held(shared(3), alone(4)),
		"two hold it, the second shared": held(alone(3), shared(4)),
		"three hold it, the last alone":  held(shared(3), shared(4), alone(5)),
		"no task waits":                  queued(one, alone(-1)),
		"a task too great waits":         queued(one, alone(4), alone(12)),
		"the least number waits":         queued(one, alone(math.MinInt)),
		"the greatest number waits":      queued(one, alone(math.MaxInt)),
		"one waits twice":                queued(one, alone(4), alone(5), alone(4)),
		"one waits twice, once shared":   queued(one, alone(4), shared(4)),
		"one holds it and waits":         queued(one, alone(3)),
		"one holds it and waits behind":  queued(one, alone(4), alone(3)),
		"the first could be held":        queued(asked(shared(3)), shared(4)),
		"the first could be held too":    queued(asked(shared(3), shared(5)), shared(4), alone(6)),
		"a queue much too long":          queued(one, make([]impl.Asked, 100000)...),
		"one waits at two locks":         {{Key: 5, Held: one, Queue: asked(alone(4))}, {Key: 6, Held: one, Queue: asked(alone(4))}},
		"one waits and holds one above":  {{Key: 5, Held: one, Queue: asked(alone(4))}, {Key: 6, Held: asked(alone(4))}},
		"one waits and shares one above": {{Key: 5, Held: one, Queue: asked(alone(4))}, {Key: 6, Held: asked(shared(2), shared(4))}},
		"one waits and holds far above":  {{Key: 5, Held: one, Queue: asked(alone(4))}, {Key: 6, Held: one}, {Key: 7, Held: asked(alone(4))}},
		"two wait for each other":        {{Key: 5, Held: asked(alone(1)), Queue: asked(alone(2))}, {Key: 6, Held: asked(alone(2)), Queue: asked(alone(1))}},
		"the second is wrong":            {{Key: 5, Held: one}, {Key: 6}},
	}
}

func TestLocksThatAreNotGood(t *testing.T) {
	want := lockAnswers{AskCode: impl.LockBad, LeaveCode: impl.LockBad}
	for what, l := range locksThatAreNotGood() {
		if goodLocksByWords(l) {
			t.Error("good by the words:", what)
		}
		for _, task := range []int{-1, 0, 3, 4, 11, 12} {
			for _, key := range []int{-1, 0, 5, 6, 9, 100001} {
				if r := askLocks(l, task, key, true); !sameLockAnswers(r, want) {
					t.Errorf("%s, task %d key %d: %+v", what, task, key, r)
				}
			}
		}
	}
}

func TestLocksThatAreGoodAtTheEdge(t *testing.T) {
	everybody := impl.Lock{Key: 0}
	for task := range impl.MaxTasks {
		everybody.Held = append(everybody.Held, shared(task))
	}
	cases := map[string][]impl.Lock{
		"none":                          nil,
		"an empty list":                 {},
		"MaxKeys":                       manyLocks(60, 11),
		"the first and the last key":    {{Key: 0, Held: asked(alone(0))}, {Key: 100000, Held: asked(alone(11))}},
		"all hold it":                   {everybody},
		"one holds it, shared":          {{Key: 5, Held: asked(shared(3))}},
		"an empty queue":                {{Key: 5, Held: asked(shared(3)), Queue: []impl.Asked{}}},
		"shared behind shared":          {{Key: 5, Held: asked(shared(3)), Queue: asked(alone(9), shared(2), shared(1))}},
		"shared behind one alone":       {{Key: 5, Held: asked(alone(3)), Queue: asked(shared(9), shared(2))}},
		"one waits and holds one below": {{Key: 4, Held: asked(alone(9))}, {Key: 5, Held: asked(alone(3)), Queue: asked(alone(9))}},
	}
	for what, l := range cases {
		if !impl.GoodLocks(l) || !goodLocksByWords(l) {
			t.Error(what)
		}
	}
}

func TestTasksAndKeysThatAreWrong(t *testing.T) {
	l := []impl.Lock{
		{Key: 0, Held: asked(shared(0), shared(11))},
		{Key: 5, Held: asked(alone(11)), Queue: asked(alone(0))},
	}
	for _, task := range []int{math.MinInt, -12, -1, 12, 13, math.MaxInt} {
		want := lockAnswers{Good: true, Ask: l, AskCode: impl.LockTask, Leave: l, LeaveCode: impl.LockTask, CycleTold: true}
		for _, key := range []int{math.MinInt, -1, 0, 5, 7, 100000, 100001} {
			if r := askLocks(l, task, key, true); !sameLockAnswers(r, want) {
				t.Errorf("task %d key %d: %+v", task, key, r)
			}
		}
	}
	for _, key := range []int{math.MinInt, -100000, -1, 100001, math.MaxInt} {
		for _, task := range []int{0, 1, 11} {
			m, holds, code := impl.AskLock(l, task, key, false)
			if code != impl.LockTask || holds || !sameLocks(m, l) {
				t.Errorf("task %d key %d: %+v %v %d", task, key, m, holds, code)
			}
		}
	}
}

// oneLockOf is every lock with the key, of these that ask, with at most so many in each list.
func oneLockOf(key int, kinds []impl.Asked, most int) []impl.Lock {
	var all []impl.Lock
	for _, h := range lists(kinds, most) {
		for _, q := range lists(kinds, most) {
			all = append(all, impl.Lock{Key: key, Held: h, Queue: q})
		}
	}
	return all
}

func checkLocks(t *testing.T, l []impl.Lock, task, key int) {
	t.Helper()
	for _, share := range []bool{false, true} {
		if r, want := askLocks(l, task, key, share), locksByWords(l, task, key, share); !sameLockAnswers(r, want) {
			t.Fatalf("%+v, task %d key %d %v: got %+v, want %+v", l, task, key, share, r, want)
		}
	}
}

func TestSmallLocksAllOfThem(t *testing.T) {
	kinds := asked(alone(0), shared(0), alone(1), shared(1), alone(2), shared(2), alone(-1), shared(12))
	good := 0
	for _, k := range oneLockOf(5, kinds, 2) {
		l := []impl.Lock{k}
		if goodLocksByWords(l) {
			good++
		}
		for task := range 4 {
			checkLocks(t, l, task, 5)
			checkLocks(t, l, task, 6)
		}
	}
	if good == 0 {
		t.Error("no good lock among them")
	}
}

func TestPairsOfSmallLocksAllOfThem(t *testing.T) {
	kinds := asked(alone(0), shared(0), alone(1), shared(1), alone(2), shared(2))
	var lower, upper []impl.Lock
	for _, k := range oneLockOf(5, kinds, 2) {
		if goodLockByWords(k) {
			lower = append(lower, k)
			k.Key = 7
			upper = append(upper, k)
		}
	}
	good, all := 0, 0
	for _, a := range lower {
		for _, b := range upper {
			l := []impl.Lock{a, b}
			all++
			if goodLocksByWords(l) {
				good++
			}
			for task := range 3 {
				checkLocks(t, l, task, 5)
				checkLocks(t, l, task, 7)
			}
		}
	}
	if good == 0 || good == all {
		t.Error("all alike", good, all)
	}
}

// locksWithRoom has the same lists, with room behind their length that is filled with fill.
func locksWithRoom(l []impl.Lock, fill int) []impl.Lock {
	more := slices.Repeat([]impl.Asked{shared(fill)}, 4)
	var c []impl.Lock
	for _, k := range l {
		k.Held = append(slices.Clone(k.Held), more...)[:len(k.Held)]
		k.Queue = append(slices.Clone(k.Queue), more...)[:len(k.Queue)]
		c = append(c, k)
	}
	for range 4 {
		c = append(c, impl.Lock{Key: fill, Held: asked(shared(fill)), Queue: asked(alone(fill))})
	}
	return c[:len(l)]
}

// wholeLocks is the locks with the room behind all their lists.
func wholeLocks(l []impl.Lock) []impl.Lock {
	var c []impl.Lock
	for _, k := range l[:cap(l)] {
		k.Held, k.Queue = k.Held[:cap(k.Held)], k.Queue[:cap(k.Queue)]
		c = append(c, k)
	}
	return c
}

// scribbleLocks writes over all lists, the room behind them too.
func scribbleLocks(l []impl.Lock) {
	for _, k := range wholeLocks(l) {
		for i := range k.Held {
			k.Held[i] = alone(-7)
		}
		for i := range k.Queue {
			k.Queue[i] = alone(-7)
		}
	}
	l = l[:cap(l)]
	for i := range l {
		l[i] = impl.Lock{Key: -7}
	}
}

func scribbleLockAnswers(r lockAnswers) {
	scribbleLocks(r.Ask)
	scribbleLocks(r.Leave)
	for _, l := range [][]int{r.Entered, r.Keys, r.For} {
		l = l[:cap(l)]
		for i := range l {
			l[i] = -7
		}
	}
}

func copyLockAnswers(r lockAnswers) lockAnswers {
	r.Ask, r.Leave = copyLocks(r.Ask), copyLocks(r.Leave)
	r.Entered, r.Keys, r.For = slices.Clone(r.Entered), slices.Clone(r.Keys), slices.Clone(r.For)
	return r
}

// eachForMemory goes over locks of many kinds with tasks and keys.
func eachForMemory(do func(l []impl.Lock, task, key int, share bool)) {
	all := [][]impl.Lock{
		nil,
		{{Key: 5, Held: asked(shared(1))}},
		{{Key: 5, Held: asked(shared(1), shared(2))}, {Key: 7, Held: asked(alone(1)), Queue: asked(alone(0), shared(2))}},
		{{Key: 5, Held: asked(shared(0)), Queue: asked(alone(1), shared(2), shared(3), alone(4))}},
		{{Key: 5, Held: asked(alone(0)), Queue: asked(shared(3), shared(1), shared(2))}, {Key: 6, Held: asked(alone(0))}},
		manyLocks(60, 2),
		manyLocks(61, 2),
		{{Key: 5, Held: asked(alone(0)), Queue: asked(alone(0))}},
	}
	for _, l := range all {
		for _, task := range []int{-1, 0, 1, 2, 4} {
			for _, key := range []int{-1, 4, 5, 7, 9} {
				do(l, task, key, false)
				do(l, task, key, true)
			}
		}
	}
}

func TestNothingIsWrittenIntoLocks(t *testing.T) {
	eachForMemory(func(plain []impl.Lock, task, key int, share bool) {
		l := locksWithRoom(plain, 777)
		was := copyLocks(wholeLocks(l))
		r := askLocks(l, task, key, share)
		if !sameLocks(wholeLocks(l), was) {
			t.Fatalf("written into: %+v, task %d key %d", plain, task, key)
		}
		scribbleLockAnswers(r)
		if !sameLocks(wholeLocks(l), was) {
			t.Fatalf("an answer shares memory with %+v, task %d key %d", plain, task, key)
		}
	})
}

func TestLockAnswersStayWhenTheArgumentChanges(t *testing.T) {
	eachForMemory(func(plain []impl.Lock, task, key int, share bool) {
		l := locksWithRoom(plain, 777)
		r := askLocks(l, task, key, share)
		was := copyLockAnswers(r)
		scribbleLocks(l)
		if !sameLockAnswers(r, was) {
			t.Fatalf("an answer changed with its argument: %+v, task %d key %d", plain, task, key)
		}
	})
}

// Each list of an answer is written over to its last room, while the others must stay.
func TestListsOfOneLockAnswerShareNothing(t *testing.T) {
	eachForMemory(func(plain []impl.Lock, task, key int, share bool) {
		r := askLocks(plain, task, key, share)
		for _, l := range [][]impl.Lock{r.Ask, r.Leave} {
			var all [][]impl.Asked
			for _, k := range l {
				all = append(all, k.Held, k.Queue)
			}
			for i, one := range all {
				was := make([][]impl.Asked, len(all))
				for j := range all {
					was[j] = slices.Clone(all[j])
				}
				room := one[:cap(one)]
				for j := range room {
					room[j] = alone(-7)
				}
				for j := range all {
					if j != i && !slices.Equal(all[j], was[j]) {
						t.Fatalf("two lists share memory: %+v, task %d key %d", plain, task, key)
					}
				}
			}
		}
	})
}

func TestTwoLockAnswersShareNothing(t *testing.T) {
	eachForMemory(func(plain []impl.Lock, task, key int, share bool) {
		first, second := askLocks(plain, task, key, share), askLocks(plain, task, key, share)
		was := copyLockAnswers(second)
		scribbleLockAnswers(first)
		if !sameLockAnswers(second, was) {
			t.Fatalf("two answers share memory: %+v, task %d key %d", plain, task, key)
		}
	})
}

func TestRoomBehindLocksIsNotRead(t *testing.T) {
	eachForMemory(func(plain []impl.Lock, task, key int, share bool) {
		want := locksByWords(plain, task, key, share)
		for _, fill := range []int{0, 1, 9, 777} {
			if r := askLocks(locksWithRoom(plain, fill), task, key, share); !sameLockAnswers(r, want) {
				t.Fatalf("room filled with %d: %+v, task %d key %d: %+v", fill, plain, task, key, r)
			}
		}
		r := askLocks(locksWithRoom(plain, 777), task, key, share)
		for _, k := range slices.Concat(wholeLocks(r.Ask), wholeLocks(r.Leave)) {
			if k.Key == 777 || stands(k.Held, 777) || stands(k.Queue, 777) {
				t.Fatalf("room was handed out: %+v, task %d key %d", plain, task, key)
			}
		}
	})
}

func TestEmptyAndNilLocksAreTheSame(t *testing.T) {
	empty, want := askLocks([]impl.Lock{}, 0, 5, true), askLocks(nil, 0, 5, true)
	if !sameLockAnswers(empty, want) {
		t.Error(empty, want)
	}
	with := []impl.Lock{{Key: 5, Held: asked(shared(1)), Queue: []impl.Asked{}}}
	without := []impl.Lock{{Key: 5, Held: asked(shared(1))}}
	if r, want := askLocks(with, 0, 5, true), askLocks(without, 0, 5, true); !sameLockAnswers(r, want) || !r.Holds {
		t.Error(r, want)
	}
}

package tests

import (
	"math/rand"
	"slices"
	"testing"

	"loop.example/g00084/impl"
)

func wantLocks(t *testing.T, what string, got, want []impl.Lock) {
	t.Helper()
	if !sameLocks(got, want) {
		t.Errorf("%s: got %+v, want %+v", what, got, want)
	}
}

// ask is AskLock where it must not be refused.
func ask(t *testing.T, l []impl.Lock, key int, a impl.Asked, holds bool) []impl.Lock {
	t.Helper()
	m, got, code := impl.AskLock(l, a.Task, key, a.Shared)
	if got != holds || code != impl.LockOk {
		t.Fatalf("ask %+v at %d: %v %d, want %v", a, key, got, code, holds)
	}
	return m
}

// leave is LeaveLocks where it must let in just these.
func leave(t *testing.T, l []impl.Lock, task int, entered ...int) []impl.Lock {
	t.Helper()
	m, in, code := impl.LeaveLocks(l, task)
	if !slices.Equal(in, entered) || code != impl.LockOk {
		t.Fatalf("%d leaves: %v %d, want %v", task, in, code, entered)
	}
	return m
}

// manyLocks has n locks with the keys 10, 12, 14 and so on, all held by the task.
func manyLocks(n int, task int) []impl.Lock {
	var l []impl.Lock
	for i := range n {
		l = append(l, impl.Lock{Key: 10 + 2*i, Held: asked(alone(task))})
	}
	return l
}

func TestLockConstants(t *testing.T) {
	if impl.MaxKeys != 60 || impl.MaxTasks != 12 {
		t.Error(impl.MaxKeys, impl.MaxTasks)
	}
	codes := []int{impl.LockOk, impl.LockBad, impl.LockTask, impl.LockOrder, impl.LockWaits}
	if !slices.Equal(codes, []int{0, 1, 2, 3, 4}) {
		t.Error(codes)
	}
}

func TestALockThatNobodyHolds(t *testing.T) {
	l := ask(t, nil, 5, alone(3), true)
	wantLocks(t, "the first", l, []impl.Lock{{Key: 5, Held: asked(alone(3))}})
	l = ask(t, l, 100000, shared(3), true)
	l = ask(t, l, 0, shared(11), true)
	l = ask(t, l, 7, alone(0), true)
	wantLocks(t, "in their places", l, []impl.Lock{
		{Key: 0, Held: asked(shared(11))},
		{Key: 5, Held: asked(alone(3))},
		{Key: 7, Held: asked(alone(0))},
		{Key: 100000, Held: asked(shared(3))},
	})
	if keys, ok := impl.KeysOf(l, 3); !ok || !slices.Equal(keys, []int{5, 100000}) {
		t.Error("keys of 3", keys, ok)
	}
	if keys, ok := impl.KeysOf(l, 1); !ok || len(keys) != 0 {
		t.Error("keys of one that holds none", keys, ok)
	}
}

func TestASharedLock(t *testing.T) {
	l := ask(t, nil, 5, shared(4), true)
	l = ask(t, l, 5, shared(9), true)
	l = ask(t, l, 5, shared(0), true)
	l = ask(t, l, 5, shared(6), true)
	wantLocks(t, "shared", l, []impl.Lock{{Key: 5, Held: asked(shared(0), shared(4), shared(6), shared(9))}})
	l = ask(t, l, 5, alone(2), false)
	wantLocks(t, "not shared beside shared", l, []impl.Lock{
		{Key: 5, Held: asked(shared(0), shared(4), shared(6), shared(9)), Queue: asked(alone(2))},
	})
}

func TestTheFirstInTheQueueBarsThoseBehind(t *testing.T) {
	l := ask(t, nil, 5, shared(0), true)
	l = ask(t, l, 5, alone(1), false)
	l = ask(t, l, 5, shared(2), false)
	wantLocks(t, "a shared one behind", l, []impl.Lock{{Key: 5, Held: asked(shared(0)), Queue: asked(alone(1), shared(2))}})
	for task, want := range [][]int{nil, {0}, {1}} {
		if w, ok := impl.WaitsFor(l, task); !ok || !slices.Equal(w, want) {
			t.Error(task, "waits for", w, ok)
		}
	}
	l = leave(t, l, 0, 1)
	wantLocks(t, "0 left", l, []impl.Lock{{Key: 5, Held: asked(alone(1)), Queue: asked(shared(2))}})
	l = leave(t, l, 1, 2)
	wantLocks(t, "1 left", l, []impl.Lock{{Key: 5, Held: asked(shared(2))}})
	l = leave(t, l, 2)
	wantLocks(t, "2 left", l, nil)
}

func TestTheOrderInWhichTheyAsked(t *testing.T) {
	l := ask(t, nil, 5, alone(4), true)
	for _, task := range []int{9, 2, 7, 0} {
		l = ask(t, l, 5, alone(task), false)
	}
	wantLocks(t, "queue", l, []impl.Lock{{Key: 5, Held: asked(alone(4)), Queue: asked(alone(9), alone(2), alone(7), alone(0))}})
	last := 4
	for _, task := range []int{9, 2, 7, 0} {
		l = leave(t, l, last, task)
		last = task
	}
}

func TestSeveralAreLetInAtOneLock(t *testing.T) {
	l := []impl.Lock{{Key: 5, Held: asked(alone(6)), Queue: asked(shared(8), shared(1), shared(7), alone(0), shared(2))}}
	l = leave(t, l, 6, 1, 7, 8)
	wantLocks(t, "let in", l, []impl.Lock{{Key: 5, Held: asked(shared(1), shared(7), shared(8)), Queue: asked(alone(0), shared(2))}})
	l = leave(t, l, 7)
	wantLocks(t, "still held", l, []impl.Lock{{Key: 5, Held: asked(shared(1), shared(8)), Queue: asked(alone(0), shared(2))}})
}

func TestALeaverFromTheQueueLetsIn(t *testing.T) {
	l := []impl.Lock{{Key: 5, Held: asked(shared(3)), Queue: asked(alone(6), shared(9), shared(1), alone(2), shared(4))}}
	if k, ok := impl.WaitsAt(l, 6); !ok || k != 5 {
		t.Error(k, ok)
	}
	first := leave(t, l, 6, 1, 9)
	wantLocks(t, "the first of the queue left", first, []impl.Lock{{Key: 5, Held: asked(shared(1), shared(3), shared(9)), Queue: asked(alone(2), shared(4))}})
	middle := leave(t, l, 9)
	wantLocks(t, "one in the middle left", middle, []impl.Lock{{Key: 5, Held: asked(shared(3)), Queue: asked(alone(6), shared(1), alone(2), shared(4))}})
	last := leave(t, l, 4)
	wantLocks(t, "the last left", last, []impl.Lock{{Key: 5, Held: asked(shared(3)), Queue: asked(alone(6), shared(9), shared(1), alone(2))}})
}

func TestSeveralAreLetInAtSeveralLocks(t *testing.T) {
	l := []impl.Lock{
		{Key: 1, Held: asked(shared(0), shared(5)), Queue: asked(alone(9))},
		{Key: 2, Held: asked(alone(5)), Queue: asked(shared(8), shared(3))},
		{Key: 3, Held: asked(alone(5))},
		{Key: 4, Held: asked(alone(1)), Queue: asked(alone(5), alone(7))},
	}
	l = leave(t, l, 5, 3, 8)
	wantLocks(t, "5 left", l, []impl.Lock{
		{Key: 1, Held: asked(shared(0)), Queue: asked(alone(9))},
		{Key: 2, Held: asked(shared(3), shared(8))},
		{Key: 4, Held: asked(alone(1)), Queue: asked(alone(7))},
	})
	l = leave(t, l, 0, 9)
	l = leave(t, l, 1, 7)
	wantLocks(t, "0 and 1 left", l, []impl.Lock{
		{Key: 1, Held: asked(alone(9))},
		{Key: 2, Held: asked(shared(3), shared(8))},
		{Key: 4, Held: asked(alone(7))},
	})
	two := []impl.Lock{
		{Key: 1, Held: asked(alone(5)), Queue: asked(alone(9))},
		{Key: 2, Held: asked(alone(5)), Queue: asked(alone(4))},
	}
	leave(t, two, 5, 4, 9)
}

func TestALeaverThatIsNowhere(t *testing.T) {
	l := []impl.Lock{{Key: 5, Held: asked(shared(3)), Queue: asked(alone(6), shared(9))}}
	wantLocks(t, "nothing changes", leave(t, l, 0), l)
	wantLocks(t, "of no locks", leave(t, nil, 0), nil)
}

func TestWhoWaitsForWhom(t *testing.T) {
	l := []impl.Lock{
		{Key: 2, Held: asked(shared(4), shared(10)), Queue: asked(alone(6), shared(1), shared(0), alone(3), shared(2))},
		{Key: 8, Held: asked(alone(4)), Queue: asked(shared(10), shared(5), alone(7))},
	}
	wants := map[int][]int{
		0: {6}, 1: {6}, 2: {3, 6}, 3: {0, 1, 4, 6, 10}, 4: nil, 5: {4}, 6: {4, 10}, 7: {4, 5, 10}, 8: nil, 10: {4},
	}
	for task, want := range wants {
		if w, ok := impl.WaitsFor(l, task); !ok || !slices.Equal(w, want) {
			t.Errorf("%d waits for %v %v, want %v", task, w, ok, want)
		}
	}
	for task, want := range map[int]int{6: 2, 2: 2, 10: 8, 7: 8} {
		if k, ok := impl.WaitsAt(l, task); !ok || k != want {
			t.Error(task, "waits at", k, ok)
		}
	}
	for _, task := range []int{4, 8, 11} {
		if k, ok := impl.WaitsAt(l, task); ok || k != 0 {
			t.Error(task, "does not wait", k, ok)
		}
	}
	if keys, ok := impl.KeysOf(l, 10); !ok || !slices.Equal(keys, []int{2}) {
		t.Error("keys of one that waits", keys, ok)
	}
	if cycle, ok := impl.CycleIn(l); cycle || !ok {
		t.Error("cycle", cycle, ok)
	}
}

func TestLockCodesInTheirOrder(t *testing.T) {
	good := []impl.Lock{
		{Key: 3, Held: asked(shared(0), shared(1))},
		{Key: 5, Held: asked(alone(2)), Queue: asked(shared(1))},
	}
	bad := copyLocks(good)
	bad[1].Key = 3
	full := append(manyLocks(59, 0), impl.Lock{Key: 500, Held: asked(alone(0)), Queue: asked(alone(1))})
	cases := []struct {
		what      string
		l         []impl.Lock
		task, key int
		code      int
	}{
		{"bad ahead of no task", bad, -1, 9, impl.LockBad},
		{"bad ahead of no key", bad, 3, -1, impl.LockBad},
		{"bad ahead of waits", bad, 1, 9, impl.LockBad},
		{"no task ahead of no room", full, 12, 9, impl.LockTask},
		{"no key ahead of no room", full, 4, 100001, impl.LockTask},
		{"no room", full, 4, 9, impl.LockBad},
		{"no room ahead of waits", full, 1, 600, impl.LockBad},
		{"no room ahead of order", full, 0, 9, impl.LockBad},
		{"room where the key is", full, 4, 10, impl.LockOk},
		{"waits, where there is no room", full, 1, 500, impl.LockWaits},
		{"order, where there is no room", full, 0, 500, impl.LockOrder},
		{"no task", good, -1, 9, impl.LockTask},
		{"no key of one that waits", good, 1, 100001, impl.LockTask},
		{"waits", good, 1, 9, impl.LockWaits},
		{"waits ahead of order", good, 1, 3, impl.LockWaits},
		{"waits at this key", good, 1, 5, impl.LockWaits},
		{"holds it", good, 0, 3, impl.LockOrder},
		{"holds a greater one", good, 2, 3, impl.LockOrder},
		{"holds a greater one, of a key that nobody holds", good, 2, 4, impl.LockOrder},
		{"holds it alone", good, 2, 5, impl.LockOrder},
		{"holds a lesser one", good, 0, 5, impl.LockOk},
	}
	for _, c := range cases {
		for _, share := range []bool{false, true} {
			l, holds, code := impl.AskLock(c.l, c.task, c.key, share)
			want, wantHolds, wantCode := askByWordsOfLocks(c.l, c.task, c.key, share)
			if code != c.code || code != wantCode || holds != wantHolds || !sameLocks(l, want) {
				t.Errorf("%s: %+v %v %d", c.what, l, holds, code)
			}
			if code != impl.LockOk && code != impl.LockBad && !sameLocks(l, c.l) {
				t.Errorf("%s: refused, and changed: %+v", c.what, l)
			}
		}
	}
	if l, in, code := impl.LeaveLocks(bad, -1); l != nil || in != nil || code != impl.LockBad {
		t.Error("leave: bad ahead of no task", l, in, code)
	}
	if l, in, code := impl.LeaveLocks(good, 12); !sameLocks(l, good) || in != nil || code != impl.LockTask {
		t.Error("leave of no task", l, in, code)
	}
	if _, _, code := impl.LeaveLocks(good, 1); code != impl.LockOk {
		t.Error("leave of one that waits", code)
	}
}

func TestMaxKeysLocks(t *testing.T) {
	l := manyLocks(impl.MaxKeys-1, 3)
	l = ask(t, l, 11, alone(5), true)
	if len(l) != impl.MaxKeys || !impl.GoodLocks(l) {
		t.Fatal("MaxKeys met exactly", len(l))
	}
	if m, holds, code := impl.AskLock(l, 6, 13, false); m != nil || holds || code != impl.LockBad {
		t.Error("MaxKeys passed", len(m), holds, code)
	}
	l = ask(t, l, 11, alone(6), false)
	l = leave(t, l, 3)
	wantLocks(t, "all but one are gone", l, []impl.Lock{{Key: 11, Held: asked(alone(5)), Queue: asked(alone(6))}})
}

func TestAllTasksAtOneLock(t *testing.T) {
	var l []impl.Lock
	for task := impl.MaxTasks - 1; task >= 0; task-- {
		l = ask(t, l, 5, shared(task), true)
	}
	if len(l[0].Held) != impl.MaxTasks || !impl.GoodLocks(l) {
		t.Error("all hold it", l)
	}
	l = nil
	for task := range impl.MaxTasks {
		l = ask(t, l, 5, alone(task), task == 0)
	}
	if len(l[0].Queue) != impl.MaxTasks-1 || !impl.GoodLocks(l) {
		t.Error("all but one wait", l)
	}
	w, ok := impl.WaitsFor(l, impl.MaxTasks-1)
	if !ok || !slices.Equal(w, []int{0, 1, 2, 3, 4, 5, 6, 7, 8, 9, 10}) {
		t.Error("the last waits for all", w, ok)
	}
}

// someReady: where there is somebody, somebody does not wait.
func someReady(l []impl.Lock) bool {
	for _, k := range l {
		for _, h := range k.Held {
			if _, waits := impl.WaitsAt(l, h.Task); !waits {
				return true
			}
		}
	}
	return len(l) == 0
}

func TestLockHistories(t *testing.T) {
	waited, entered := 0, 0
	for seed := range int64(40) {
		r := rand.New(rand.NewSource(seed))
		keys := 2 + r.Intn(12)
		var l []impl.Lock
		for step := range 400 {
			task, key, share := r.Intn(impl.MaxTasks), r.Intn(keys), r.Intn(3) > 0
			got, want := askLocks(l, task, key, share), locksByWords(l, task, key, share)
			if !sameLockAnswers(got, want) {
				t.Fatalf("seed %d step %d, %+v, task %d key %d: got %+v, want %+v", seed, step, l, task, key, got, want)
			}
			if got.Cycle || !someReady(l) {
				t.Fatalf("nobody is ready: %+v", l)
			}
			if slices.Contains(got.For, task) {
				t.Fatalf("%d waits for itself: %+v", task, l)
			}
			waited += len(got.For)
			if r.Intn(4) == 0 {
				l = got.Leave
				entered += len(got.Entered)
			} else {
				l = got.Ask
			}
			if !impl.GoodLocks(l) {
				t.Fatalf("not good any more: %+v", l)
			}
		}
	}
	if waited == 0 || entered == 0 {
		t.Error("nobody waited or was let in", waited, entered)
	}
}

// Whoever waits is let in, in the end, if those that hold leave one after the other.
func TestAllAreLetIn(t *testing.T) {
	for seed := range int64(50) {
		r := rand.New(rand.NewSource(seed))
		var l []impl.Lock
		for range 150 {
			l, _, _ = impl.AskLock(l, r.Intn(impl.MaxTasks), r.Intn(6), r.Intn(2) == 0)
		}
		for step := 0; len(l) > 0; step++ {
			if step == impl.MaxTasks {
				t.Fatalf("somebody is left: %+v", l)
			}
			for task := range impl.MaxTasks {
				keys, _ := impl.KeysOf(l, task)
				if _, waits := impl.WaitsAt(l, task); !waits && len(keys) > 0 {
					l, _, _ = impl.LeaveLocks(l, task)
					break
				}
			}
		}
	}
}

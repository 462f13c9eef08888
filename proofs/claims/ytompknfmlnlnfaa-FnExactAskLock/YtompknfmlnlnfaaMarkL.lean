/-
  OWN TEXT: the contracts of laws.markAskedS, laws.markLockS, laws.heldAskedS, laws.heldLockS.
-/
import Derived.Test.YtompknfmlnlnfaaLLock
import Derived.Test.YtompknfmlnlnfaaKit2
namespace Go.Proofs.Ytompknfmlnlnfaa
open Go.RowKit

/-- What markAskedS lays into place j. -/
def mkT (k0 : Int) (j : Nat) : Int := k0 + 2 * j
def mkS (k0 : Int) (j : Nat) : Bool := (k0 + 2 * j + 1) % 3 == 0
def markLine (n : Nat) (k0 : Int) : Line := ⟨n, mkT k0, mkS k0⟩
/-- f below t, g from t on. -/
def uponL {α : Type} (t : Nat) (f g : Nat → α) (i : Nat) : α := if i < t then f i else g i
theorem uponL_at {α : Type} (t : Nat) (f g : Nat → α) : uponL (t + 1) f g t = f t := if_pos (by omega)
theorem uponL_ne {α : Type} (t : Nat) (f g : Nat → α) (i : Nat) (h : i ≠ t) : uponL (t + 1) f g i = uponL t f g i := by
  unfold uponL; by_cases h2 : i < t
  · rw [if_pos h2, if_pos (by omega)]
  · rw [if_neg h2, if_neg (by omega)]
theorem uponL_lt {α : Type} {t i : Nat} (f g : Nat → α) (h : i < t) : uponL t f g i = f i := if_pos h
theorem uponL_ge {α : Type} {t i : Nat} (f g : Nat → α) (h : ¬ i < t) : uponL t f g i = g i := if_neg h
def lineUpon (t : Nat) (l l' : Line) : Line := ⟨l'.n, uponL t l.T l'.T, uponL t l.S l'.S⟩

/-- The cells of a line. -/
def askList (l : Line) : List Value := (List.range (l.n * 2)).map (askCell l)

/-- One that asks is stored into an owned row. -/
theorem own_ask {w : World} {base e g n cap N k : Nat} {l l' : Line} (h : w.ownsRow base e 2 (.slice (some ⟨g, 0, none⟩) n cap) n ((List.range N).map (askCell l)))
    (hT : ∀ i, i ≠ k → l'.T i = l.T i) (hS : ∀ i, i ≠ k → l'.S i = l.S i) :
    ((w.setCell ⟨g, k * 2, none⟩ (.int .i64 (l'.T k))).setCell ⟨g, k * 2 + 1, none⟩ (.bool (l'.S k))).ownsRow base e 2 (.slice (some ⟨g, 0, none⟩) n cap) n ((List.range N).map (askCell l')) := by
  refine own_congr (own_store (own_store h (k * 2) _) (k * 2 + 1) _) fun j _ => ?_
  by_cases h1 : j = k * 2 + 1
  · subst h1; rw [if_pos rfl, askCell_1]
  · rw [if_neg h1]
    by_cases h0 : j = k * 2
    · subst h0; rw [if_pos rfl, askCell_0]
    · rw [if_neg h0]
      have hk : j / 2 ≠ k := by omega
      unfold askCell
      rw [hT _ hk, hS _ hk]

set_option maxHeartbeats 800000 in
theorem markAskedS_own (ao : Option Addr) (n c base : Nat) (l : Line) (k0 : Int) (w : World) (hl : l.n = n) (hn : n ≤ 1048576) (h0 : 0 ≤ k0) (h1 : k0 ≤ 1000000000000000) (ho : w.ownsRow base 65 2 (.slice ao n c) n (askList l)) :
    Calls Try.prog 57 #[.slice ao n c, .int .i64 k0] w fun e w' => e = .returned (.int .i64 (k0 + 2 * n)) ∧ w'.ownsRow base 65 2 (.slice ao n c) n (askList (markLine n k0)) ∧ Kept w w' (fun b => (Value.slice ao n c).ownBlock = some b) := by
  have HL : Hid (l.n = n) := hl
  clear hl
  go_enter Try.func57, Try.ntmps57
  go_wp2
  go_loopw [1, 5] (fun q i wr => ∃ t : Nat, t ≤ n ∧ i = .int .i64 t ∧ q = .int .i64 (k0 + 2 * t) ∧ wr.ownsRow base 65 2 (.slice ao n c) n ((List.range (n * 2)).map (askCell (lineUpon t (markLine n k0) l))) ∧ Kept w wr (fun b => (Value.slice ao n c).ownBlock = some b)) (fun _ i _ => n - (intOf i).toNat)
  case atStart => exact ⟨0, Nat.zero_le _, rfl, by simp, by unfold askList at ho; rw [HL.out] at ho; exact own_congr ho (by intro i _; rfl), Kept.refl _ _⟩
  case round =>
    obtain ⟨t, ht, rfl, rfl, hown, hk⟩ := hrel
    by_cases hlt : t < n
    · obtain ⟨g, rfl, hg1, hg2⟩ := own_addr hown (by omega)
      have hc0 := own_cell hown (t * 2) (by omega) rfl
      have hc1 := own_cell hown (t * 2 + 1) (by omega) rfl
      have hf0 := hown.frozenAt (t * 2)
      have hf1 := hown.frozenAt (t * 2 + 1)
      go_wp2
      go_roundw
      case rel =>
        refine ⟨t + 1, by omega, by go_num, by go_num, ?_, (hk.set (a := ⟨g, t * 2, none⟩) rfl _).set (a := ⟨g, t * 2 + 1, none⟩) rfl _⟩
        have := own_ask (k := t) (l' := lineUpon (t + 1) (markLine n k0) l) hown (fun i h => uponL_ne _ _ _ _ h) (fun i h => uponL_ne _ _ _ _ h)
        simp only [lineUpon, uponL_at] at this
        exact this
      case measure => simp [intOf]; omega
    · obtain rfl : t = n := by omega
      go_wp2
      go_ret
      refine ⟨rfl, own_congr hown (fun i hi => ?_), hk⟩
      have hi : i < t * 2 := hi
      unfold askCell lineUpon
      simp only
      rw [uponL_lt _ _ (by omega), uponL_lt _ _ (by omega)]

set_option maxHeartbeats 800000 in
theorem heldAskedS_yes (ao : Option Addr) (n c : Nat) (k0 : Int) (w : World) (hn : n ≤ 1048576) (h0 : 0 ≤ k0) (h1 : k0 ≤ 1000000000000000) (hz : LineAt w ao (markLine n k0)) :
    Calls Try.prog 58 #[.slice ao n c, .int .i64 k0] w fun e w' => e = .returned (.int .i64 (k0 + 2 * n)) ∧ Below w.heap.size w w' := by
  go_enter Try.func58, Try.ntmps58
  go_wp2
  go_loopw [1, 5] (fun q i wr => ∃ t : Nat, t ≤ n ∧ i = .int .i64 t ∧ q = .int .i64 (k0 + 2 * t) ∧ Below w.heap.size w wr) (fun _ i _ => n - (intOf i).toNat)
  case atStart => exact ⟨0, Nat.zero_le _, rfl, by simp, Below.refl _ _⟩
  case round =>
    obtain ⟨t, ht, rfl, rfl, hbel⟩ := hrel
    by_cases hlt : t < n
    · obtain ⟨b, off, rfl, g1, g2⟩ := hz t hlt
      have hb := World.block_lt_of_cell? w _ g1
      have s1 := (hbel.cell (p := ⟨b, off + t * 2, none⟩) hb).trans g1
      have s2 := (hbel.cell (p := ⟨b, off + t * 2 + 1, none⟩) hb).trans g2
      simp only [markLine, mkT, mkS] at s1 s2
      clear g1 g2
      go_wp2
      go_roundw
      case rel => exact ⟨t + 1, by omega, by go_num, by go_num, hbel⟩
      case measure => simp [intOf]; omega
    · obtain rfl : t = n := by omega
      go_wp2
      go_ret
      exact ⟨rfl, hbel⟩

/-- Where the marks stand ahead of lock i. -/
def markPos (H Q : Nat → Line) (k0 : Int) : Nat → Int
  | 0 => k0
  | i + 1 => markPos H Q k0 i + 1 + 2 * (H i).n + 2 * (Q i).n
def markH (H Q : Nat → Line) (k0 : Int) (i : Nat) : Line := markLine (H i).n (markPos H Q k0 i + 1)
def markQ (H Q : Nat → Line) (k0 : Int) (i : Nat) : Line := markLine (Q i).n (markPos H Q k0 i + 1 + 2 * (H i).n)
theorem markPos_lo (H Q : Nat → Line) (k0 : Int) : ∀ i, k0 ≤ markPos H Q k0 i := by
  intro i
  induction i with
  | zero => exact Int.le_refl _
  | succ i ih => unfold markPos; omega
theorem markPos_hi (N : Nat) (H Q : Nat → Line) (k0 : Int) (hs : ShortTo N H Q 1048576) : ∀ i, i ≤ N → markPos H Q k0 i ≤ k0 + 8000000 * i := by
  intro i
  induction i with
  | zero => intro _; unfold markPos; omega
  | succ i ih => intro hi; have := ih (by omega); have := hs i (by omega); unfold markPos; omega

/-- Locks in rows of their own: no two lie in one block. -/
structure LocksOwn (w : World) (base N : Nat) (v : Value) (K : Nat → Int) (H Q : Nat → Line) (hs qs : Nat → Value) : Prop where
  row : w.ownsRow base 68 3 v N ((List.range (N * 3)).map (lockCell K hs qs))
  held : ∀ i, i < N → w.ownsRow base 65 2 (hs i) (H i).n (askList (H i))
  queue : ∀ i, i < N → w.ownsRow base 65 2 (qs i) (Q i).n (askList (Q i))
  hh : ∀ i j, i < N → j < N → i ≠ j → ∀ b, (hs i).ownBlock = some b → (hs j).ownBlock ≠ some b
  hq : ∀ i j, i < N → j < N → ∀ b, (hs i).ownBlock = some b → (qs j).ownBlock ≠ some b
  qq : ∀ i j, i < N → j < N → i ≠ j → ∀ b, (qs i).ownBlock = some b → (qs j).ownBlock ≠ some b
/-- The blocks of such locks. -/
def LockBlocks (N : Nat) (v : Value) (hs qs : Nat → Value) (b : Nat) : Prop := v.ownBlock = some b ∨ ∃ i, i < N ∧ ((hs i).ownBlock = some b ∨ (qs i).ownBlock = some b)


theorem LocksOwn.setKey {w : World} {base N t g c : Nat} {K K' : Nat → Int} {H Q : Nat → Line} {hs qs : Nat → Value} (L : LocksOwn w base N (.slice (some ⟨g, 0, none⟩) N c) K H Q hs qs) (x : Int) (hx : K' t = x) (hK : ∀ i, i ≠ t → K' i = K i) :
    LocksOwn (w.setCell ⟨g, t * 3, none⟩ (.int .i64 x)) base N (.slice (some ⟨g, 0, none⟩) N c) K' H Q hs qs := by
  have hk : Kept w (w.setCell ⟨g, t * 3, none⟩ (.int .i64 x)) (fun b => b = g) := (Kept.refl w (fun b => b = g)).set (a := ⟨g, t * 3, none⟩) rfl _
  refine ⟨own_congr (own_store L.row (t * 3) _) (fun j _ => ?_), fun i hi => hk.own (L.held i hi) (fun b hb e => own_apart L.row (L.held i hi) (by decide) g rfl (e ▸ hb)), fun i hi => hk.own (L.queue i hi) (fun b hb e => own_apart L.row (L.queue i hi) (by decide) g rfl (e ▸ hb)), L.hh, L.hq, L.qq⟩
  by_cases e : j = t * 3
  · subst e; rw [if_pos rfl, lockCell_0, hx]
  · rw [if_neg e]
    unfold lockCell
    by_cases e0 : j % 3 = 0
    · rw [if_pos e0, if_pos e0, hK _ (by omega)]
    · rw [if_neg e0, if_neg e0]

theorem LocksOwn.setHeld {w w' : World} {base N t : Nat} {v : Value} {K : Nat → Int} {H H' Q : Nat → Line} {hs qs : Nat → Value} (L : LocksOwn w base N v K H Q hs qs) (ht : t < N) (hk : Kept w w' (fun b => (hs t).ownBlock = some b))
    (ho : w'.ownsRow base 65 2 (hs t) (H' t).n (askList (H' t))) (hH : ∀ i, i ≠ t → H' i = H i) : LocksOwn w' base N v K H' Q hs qs := by
  refine ⟨hk.own L.row (fun b hb e => own_apart L.row (L.held t ht) (by decide) b hb e), fun i hi => ?_, fun i hi => hk.own (L.queue i hi) (fun b hb e => L.hq t i ht hi b e hb), L.hh, L.hq, L.qq⟩
  by_cases e : i = t
  · subst e; exact ho
  · rw [hH i e]; exact hk.own (L.held i hi) (fun b hb e' => L.hh t i ht hi (fun h => e h.symm) b e' hb)
theorem LocksOwn.setQueue {w w' : World} {base N t : Nat} {v : Value} {K : Nat → Int} {H Q Q' : Nat → Line} {hs qs : Nat → Value} (L : LocksOwn w base N v K H Q hs qs) (ht : t < N) (hk : Kept w w' (fun b => (qs t).ownBlock = some b))
    (ho : w'.ownsRow base 65 2 (qs t) (Q' t).n (askList (Q' t))) (hQ : ∀ i, i ≠ t → Q' i = Q i) : LocksOwn w' base N v K H Q' hs qs := by
  refine ⟨hk.own L.row (fun b hb e => own_apart L.row (L.queue t ht) (by decide) b hb e), fun i hi => hk.own (L.held i hi) (fun b hb e => L.hq i t hi ht b hb e), fun i hi => ?_, L.hh, L.hq, L.qq⟩
  by_cases e : i = t
  · subst e; exact ho
  · rw [hQ i e]; exact hk.own (L.queue i hi) (fun b hb e' => L.qq t i ht hi (fun h => e h.symm) b e' hb)

set_option maxHeartbeats 1600000 in
set_option maxRecDepth 100000 in
theorem markLockS_own (ao : Option Addr) (N c base : Nat) (K : Nat → Int) (H Q : Nat → Line) (hs qs : Nat → Value) (w : World) (hN : N ≤ 1048576) (hsh : ShortTo N H Q 1048576) (L : LocksOwn w base N (.slice ao N c) K H Q hs qs) :
    Calls Try.prog 20 #[.slice ao N c, .int .i64 1] w fun e w' => e = .returned (.int .i64 (markPos H Q 1 N)) ∧ LocksOwn w' base N (.slice ao N c) (markPos H Q 1) (markH H Q 1) (markQ H Q 1) hs qs ∧ Kept w w' (LockBlocks N (.slice ao N c) hs qs) := by
  have HS : Hid (ShortTo N H Q 1048576) := hsh
  clear hsh
  go_enter Try.func20, Try.ntmps20
  go_wp2
  go_loopw [1, 5] (fun r i wr => ∃ t : Nat, t ≤ N ∧ i = .int .i64 t ∧ r = .int .i64 (markPos H Q 1 t) ∧ LocksOwn wr base N (.slice ao N c) (uponL t (markPos H Q 1) K) (uponL t (markH H Q 1) H) (uponL t (markQ H Q 1) Q) hs qs ∧ Kept w wr (LockBlocks N (.slice ao N c) hs qs)) (fun _ i _ => N - (intOf i).toNat)
  case atStart => exact ⟨0, Nat.zero_le _, rfl, rfl, L, Kept.refl _ _⟩
  case round =>
    obtain ⟨t, ht, rfl, rfl, hL, hk⟩ := hrel
    have hlo := markPos_lo H Q 1 t
    have hhi := markPos_hi N H Q 1 HS.out t ht
    have HM : Hid (markPos H Q 1 (t + 1) = markPos H Q 1 t + 1 + 2 * (H t).n + 2 * (Q t).n) := rfl
    by_cases hlt : t < N
    · obtain ⟨g, rfl, hg1, hg2⟩ := own_addr hL.row (by omega)
      have s1 := (HS.out t hlt).1
      have s2 := (HS.out t hlt).2
      have hH0 : uponL t (markH H Q 1) H t = H t := uponL_ge _ _ (by omega)
      have hQ0 : uponL t (markQ H Q 1) Q t = Q t := uponL_ge _ _ (by omega)
      have hL1 := hL.setKey (t := t) (K' := uponL (t + 1) (markPos H Q 1) K) (markPos H Q 1 t) (uponL_at _ _ _) (fun i e => uponL_ne _ _ _ _ e)
      have hc0 := own_cell hL.row (t * 3) (by omega) rfl
      have hf0 := hL.row.frozenAt (t * 3)
      have hd1 := own_cell hL1.row (t * 3 + 1) (by omega) rfl
      rw [lockCell_1] at hd1
      have oh := hL1.held t hlt
      rw [hH0] at oh
      obtain ⟨ha, hc, eh, _⟩ := own_form oh
      rw [eh] at hd1 oh
      generalize hmp : markPos H Q 1 t = mp at *
      have HMP : Hid (markPos H Q 1 t = mp) := hmp
      clear hmp
      have hw1 : IntKind.i64.wrap (mp + 1) = mp + 1 := by rw [IntKind.wrap_i64]; omega
      go_wp2_with fail
      refine (markAskedS_own ha _ hc base (H t) (mp + 1) _ rfl s1 (by omega) (by omega) oh).mono ?_
      rintro e w2 ⟨rfl, ho2, hk2⟩
      have hL2 := hL1.setHeld (t := t) (H' := uponL (t + 1) (markH H Q 1) H) hlt (by rw [eh]; exact hk2) (by rw [uponL_at, eh]; unfold markH; rw [HMP.out]; exact ho2) (fun i e => uponL_ne _ _ _ _ e)
      have hd2 := own_cell hL2.row (t * 3 + 2) (by omega) rfl
      rw [lockCell_2] at hd2
      have oq := hL2.queue t hlt
      rw [hQ0] at oq
      obtain ⟨qa, qc, eq, _⟩ := own_form oq
      rw [eq] at hd2 oq
      go_wp2_with fail
      refine (markAskedS_own qa _ qc base (Q t) (mp + 1 + 2 * (H t).n) _ rfl s2 (by omega) (by omega) oq).mono ?_
      rintro e w3 ⟨rfl, ho3, hk3⟩
      have hL3 := hL2.setQueue (t := t) (Q' := uponL (t + 1) (markQ H Q 1) Q) hlt (by rw [eq]; exact hk3) (by rw [uponL_at, eq]; unfold markQ; rw [HMP.out]; exact ho3) (fun i e => uponL_ne _ _ _ _ e)
      have hk4 := ((hk.set (a := ⟨g, t * 3, none⟩) (.inl rfl) (.int .i64 mp)).trans (hk2.mono (fun b hb => .inr ⟨t, hlt, .inl (by rw [eh]; exact hb)⟩))).trans (hk3.mono (fun b hb => .inr ⟨t, hlt, .inr (by rw [eq]; exact hb)⟩))
      clear hL hL1 hL2 hc0 hf0 hd1 hd2 oh oq ho2 ho3 hk2 hk3 hk
      go_wp2
      go_roundw
      case rel => exact ⟨t + 1, by omega, by go_num, by rw [HM.out], hL3, hk4⟩
      case measure => simp [intOf]; omega
    · obtain rfl : t = N := by omega
      go_wp2
      go_ret
      refine ⟨rfl, ?_, hk⟩
      refine ⟨own_congr hL.row (fun j hj => ?_), fun i hi => ?_, fun i hi => ?_, hL.hh, hL.hq, hL.qq⟩
      · unfold lockCell; rw [uponL_lt _ _ (by omega)]
      · have := hL.held i hi; rw [uponL_lt _ _ hi] at this; exact this
      · have := hL.queue i hi; rw [uponL_lt _ _ hi] at this; exact this

/-- A copy that toLockS made, as locks in rows of their own. -/
theorem LocksTo.own {w : World} {lo g N : Nat} {K : Nat → Int} {H Q : Nat → Line} {h q : Nat → Nat} (r : LocksTo w 68 65 N lo g N K H Q h q) (hN : N ≤ 1048576) (hs : ShortTo N H Q 1048576) :
    LocksOwn w lo N (.slice (some ⟨g, 0, none⟩) N N) K H Q (fun i => whole (h i) (H i).n) (fun i => whole (q i) (Q i).n) := by
  have hrise : ∀ i j, i < j → j < N → h i < h j ∧ q i < q j ∧ q i < h j := fun i j hij hj => by
    have h1 := r.rise i j hij hj
    have h2 := (r.queue i (by omega)).1
    have h3 := (r.queue j hj).1
    exact ⟨by omega, by omega, h1⟩
  refine ⟨own_congr (own_of_row r.row r.lo (by unfold maxLen; omega)) (fun j hj => ?_), fun i hi => own_of_row (r.held i hi).2 (by have := (r.held i hi).1; have := r.lo; omega) (by have := (hs i hi).1; unfold maxLen; omega), fun i hi => own_of_row (r.queue i hi).2 (by have := (r.queue i hi).1; have := (r.held i hi).1; have := r.lo; omega) (by have := (hs i hi).2; unfold maxLen; omega), ?_, ?_, ?_⟩
  · unfold lockCell; rw [upto_lt _ _ (by omega), upto_lt _ _ (by omega), upto_lt _ _ (by omega)]
  · intro i j hi hj hne b e1 e2
    simp only [whole, Value.ownBlock, Option.some.injEq] at e1 e2
    rcases Nat.lt_or_gt_of_ne hne with hl | hl
    · have := hrise i j hl hj; omega
    · have := hrise j i hl hi; omega
  · intro i j hi hj b e1 e2
    simp only [whole, Value.ownBlock, Option.some.injEq] at e1 e2
    rcases Nat.lt_trichotomy i j with hl | hl | hl
    · have := hrise i j hl hj; have := (r.queue j hj).1; omega
    · subst hl; have := (r.queue i hi).1; omega
    · have := hrise j i hl hi; omega
  · intro i j hi hj hne b e1 e2
    simp only [whole, Value.ownBlock, Option.some.injEq] at e1 e2
    rcases Nat.lt_or_gt_of_ne hne with hl | hl
    · have := hrise i j hl hj; omega
    · have := hrise j i hl hi; omega
theorem LocksTo.blocks {w : World} {lo g N hi : Nat} {K : Nat → Int} {H Q : Nat → Line} {h q : Nat → Nat} (r : LocksTo w 68 65 N lo g N K H Q h q) (hh : w.heap.size ≤ hi) : ∀ b, LockBlocks N (.slice (some ⟨g, 0, none⟩) N N) (fun i => whole (h i) (H i).n) (fun i => whole (q i) (Q i).n) b → lo ≤ b ∧ b < hi := by
  rintro b (e | ⟨i, hi', e | e⟩)
  · simp only [Value.ownBlock, Option.some.injEq] at e
    have := r.lo; have := r.row.lt; omega
  · simp only [whole, Value.ownBlock, Option.some.injEq] at e
    have := r.lo; have := r.held i hi'; have := this.2.lt; omega
  · simp only [whole, Value.ownBlock, Option.some.injEq] at e
    have h1 := r.lo; have h2 := (r.held i hi').1; have h3 := r.queue i hi'; have := h3.2.lt; omega

end Go.Proofs.Ytompknfmlnlnfaa

/-
  OWN TEXT: SpecLw, FindI.
-/
import Derived.Deep.LoopGhost
import Derived.Test.YtdmkpflphjemoaaB21
import Derived.Test.YtdmkpflphjemoaaB22
import Derived.Test.YtdmkpflphjemoaaB09
import Derived.Test.YtdmkpflphjemoaaB05
import Derived.Test.YtdmkpflphjemoaaB11
namespace Go.Proofs.Ytdmkpflphjemoaa
open Go.RowKit

set_option maxHeartbeats 800000 in
set_option maxRecDepth 100000 in
theorem specLeave_any (ao : Option Addr) (N c : Nat) (K : Nat → Int) (H Q : Nat → Line) (x : Int) (w : World) (hN : N ≤ 1048576) (hcap : N ≤ c) (hs : ShortTo N H Q 1048576) (hx : LocksAt w ao N K H Q) :
    Calls Try.prog 13 #[.slice ao N c, .int .i64 x] w fun e w' => (∃ a1 c1 v2 ls es code, e = .returned (.tuple #[.slice a1 ls.length c1, v2, .int .i64 code]) ∧ (LocksAt w' a1 ls.length (keyF ls) (heldF ls) (queueF ls) ∧ LocksL w' w.heap.size (.slice a1 ls.length c1) ls) ∧ WaitsIs w' w.heap.size v2 es ∧ Hid (LeaveAns N K H Q x ls es code)) ∧ Below w.heap.size w w' := by
  have HS : Hid (ShortTo N H Q 1048576) := hs
  clear hs
  go_enter Try.func13, Try.ntmps13
  go_wp2_with fail
  refine (specLocks_any ao N c K H Q _ HS.out hcap hx).mono ?_
  rintro e w1 ⟨⟨v, rfl, hv⟩, hb1⟩
  have HV : Hid (v = true ↔ GoodL N K H Q) := hv
  clear hv
  cases v with
  | false =>
    have HG : Hid (¬ GoodL N K H Q) := fun h => by have := HV.out.2 h; cases this
    go_wp2
    exact bodyPost_ret (v := .tuple #[.slice none 0 0, .slice none 0 0, .int .i64 1]) (by simp [results, Try.results13, go_sem]) rfl ⟨⟨none, 0, _, [], [], 1, rfl, ⟨fun k hk => absurd hk (Nat.not_lt_zero _), LocksL.nil _ _⟩, WaitsIs.nil _ _, ⟨fun _ => ⟨rfl, rfl, rfl⟩, fun h => absurd h HG.out, fun h => absurd h HG.out⟩⟩, hb1⟩
  | true =>
    have HG : Hid (GoodL N K H Q) := HV.out.1 rfl
    clear HV
    by_cases ht : isTask x
    · have HT : Hid (isTask x) := ht
      go_wp2_with (first | (go_at_call 27; refine (l2Task_yes _ _ ht).mono ?_; rintro e w' ⟨rfl, hw'⟩; have hw1 := hw'.symm; subst hw1))
      refine (l2Leave_any ao N c K H Q x _ HG.out HS.out (hx.below hb1)).mono ?_
      rintro e w2 ⟨⟨v1, v2, ks, rfl, hL, hwt, hks⟩, hb2⟩
      obtain ⟨a1, c1, rfl, hat⟩ := (LocksL.base hL hb1.size).form
      obtain ⟨a2, c2, rfl, _⟩ := own_form hwt
      go_wp2
      exact bodyPost_ret (v := .tuple #[.slice a1 (leaveTo K H Q x N).length c1, .slice a2 ks.length c2, .int .i64 0]) (by simp [results, Try.results13, go_sem]) rfl ⟨⟨a1, c1, _, _, ks, 0, rfl, hat, own_base hwt hb1.size, ⟨fun h => absurd HG.out h, fun _ h => absurd HT.out h, fun _ _ => ⟨rfl, hks.out, rfl⟩⟩⟩, after hb1 hb2⟩
    · have HT : Hid (¬ isTask x) := ht
      clear ht
      go_wp2_with (first | (go_at_call 27; refine (l2Task_no _ _ HT.out).mono ?_; rintro e w' ⟨rfl, hw'⟩; have hw1 := hw'.symm; subst hw1))
      refine (l2OwnO_any ao N c K H Q _ hN HS.out (hx.below hb1)).mono ?_
      rintro e w2 ⟨⟨v, hv, qv, rfl, hL⟩, hb2⟩
      obtain ⟨a1, c1, rfl, hat⟩ := (LocksL.base hL.told hb1.size).form
      go_wp2
      exact bodyPost_ret (v := .tuple #[.slice a1 (locksP N K H Q).length c1, .slice none 0 0, .int .i64 2]) (by simp [results, Try.results13, go_sem]) rfl ⟨⟨a1, c1, _, _, [], 2, rfl, hat, WaitsIs.nil _ _, ⟨fun h => absurd HG.out h, fun _ _ => ⟨rfl, rfl, rfl⟩, fun _ h => absurd h HT.out⟩⟩, after hb1 hb2⟩

end Go.Proofs.Ytdmkpflphjemoaa

namespace Go.Proofs.Ytdmkpflphjemoaa
open Go.RowKit

/-- Where a key stands, or would. -/
def IsAt (N : Nat) (K : Nat → Int) (key : Int) (p : Nat) : Prop := p ≤ N ∧ (∀ j, j < p → K j < key) ∧ (∀ j, p ≤ j → j < N → key ≤ K j)
theorem isAt_one {N : Nat} {K : Nat → Int} {key : Int} {p q : Nat} (h : IsAt N K key p) (k : IsAt N K key q) : p = q := by
  rcases Nat.lt_trichotomy p q with e | e | e
  · have h1 := k.2.1 p e
    have h2 := h.2.2 p (Nat.le_refl _) (Nat.lt_of_lt_of_le e k.1)
    omega
  · exact e
  · have h1 := h.2.1 q e
    have h2 := k.2.2 q (Nat.le_refl _) (Nat.lt_of_lt_of_le e h.1)
    omega
/-- Keys that rise, in their bounds. -/
def KeysUp (N : Nat) (K : Nat → Int) : Prop := (∀ i, i < N → 0 ≤ K i ∧ K i ≤ 100000) ∧ ∀ i j, i < j → j < N → K i < K j
theorem keysUp_of {N : Nat} {K : Nat → Int} (h : ∀ i, i < N → keyOk K i) : KeysUp N K := by
  refine ⟨fun i hi => ⟨(h i hi).1, (h i hi).2.1⟩, ?_⟩
  intro i j
  induction j with
  | zero => intro h; omega
  | succ j ih =>
    intro h1 h2
    have h3 : K j < K (j + 1) := (h (j + 1) h2).2.2 (by omega)
    rcases Nat.lt_succ_iff_lt_or_eq.1 h1 with e | e
    · have := ih e (by omega); omega
    · rw [e]; exact h3

set_option maxRecDepth 100000 in
theorem cmpKey_any (y : Int) (vh vq : Value) (key : Int) (w : World) (h1 : 0 ≤ y ∧ y ≤ 100000) (h2 : 0 ≤ key ∧ key ≤ 100000) :
    Calls Try.prog 60 #[.agg #[.int .i64 y, vh, vq], .int .i64 key] w fun e w' => e = .returned (.int .i64 (y - key)) ∧ Below w.heap.size w w' := by
  have hb0 : Below w.heap.size w (w.alloc (.cells #[.int .i64 y, vh, vq] 60)) := push (Below.refl _ _) _
  go_enter Try.func60, Try.ntmps60
  go_wp2
  go_ret
  exact ⟨rfl, hb0⟩

set_option maxHeartbeats 1600000 in
set_option maxRecDepth 100000 in
theorem search_any (ao : Option Addr) (N c : Nat) (K : Nat → Int) (H Q : Nat → Line) (key : Int) (w : World) (hN : N ≤ 60) (hk : KeysUp N K) (h2 : 0 ≤ key ∧ key ≤ 100000) (hx : LocksAt w ao N K H Q) :
    Calls Try.prog 59 #[.slice ao N c, .int .i64 key, .func (.func 60) #[] #[]] w fun e w' => (∃ p : Nat, e = .returned (.tuple #[.int .i64 p, .bool (decide (p < N ∧ K p = key))]) ∧ Hid (IsAt N K key p)) ∧ Below w.heap.size w w' := by
  have HK : Hid (KeysUp N K) := hk
  have HX : Hid (LocksAt w ao N K H Q) := hx
  clear hk hx
  go_enter Try.func59, Try.ntmps59
  go_wp2
  go_loopg [9, 10] N (fun kx s9 s10 wr => ∃ lo hi : Nat, s9 = .int .i64 lo ∧ s10 = .int .i64 hi ∧ lo ≤ hi ∧ hi ≤ N ∧ hi - lo ≤ kx ∧ Below w.heap.size w wr ∧ Hid ((∀ t, t < lo → K t < key) ∧ (∀ t, hi ≤ t → t < N → key ≤ K t)))
  case atStart => exact ⟨0, N, rfl, rfl, Nat.zero_le _, Nat.le_refl _, by omega, Below.refl _ _, ⟨fun t ht => absurd ht (Nat.not_lt_zero _), fun t h1 h2 => by omega⟩⟩
  case round =>
    obtain ⟨lo, hi, rfl, rfl, hlh, hin, hg, hbel, I⟩ := hrel
    by_cases hlt : lo < hi
    · have hmid : (lo + hi) / 2 < N := by omega
      obtain ⟨b, off, ha, hc, qa, qc, rfl, c0, c1, c2, _⟩ := HX.out ((lo + hi) / 2) hmid
      have hb := World.block_lt_of_cell? w _ c0
      have d0 := (hbel.cell (p := ⟨b, off + (lo + hi) / 2 * 3, none⟩) hb).trans c0
      have d1 := (hbel.cell (p := ⟨b, off + (lo + hi) / 2 * 3 + 1, none⟩) hb).trans c1
      have d2 := (hbel.cell (p := ⟨b, off + (lo + hi) / 2 * 3 + 2, none⟩) hb).trans c2
      clear c0 c1 c2
      have ky := HK.out.1 _ hmid
      generalize hy : K ((lo + hi) / 2) = y at d0 ky
      have HY : Hid (K ((lo + hi) / 2) = y) := hy
      clear hy
      by_cases hyx : y - key < 0
      · have dd : decide (y - key < 0) = true := by simpa using hyx
        go_wp2_with (first | (go_at_call 60; refine (cmpKey_any y _ _ key _ ky h2).mono ?_; rintro e w2 ⟨rfl, hb2⟩))
        go_roundg (hi - ((lo + hi) / 2 + 1))
        case measure => omega
        case rel =>
          refine ⟨(lo + hi) / 2 + 1, hi, by rw [show ((lo : Int) + (hi : Int)) / 2 + 1 = (((lo + hi) / 2 + 1 : Nat) : Int) by omega], rfl, by omega, hin, Nat.le_refl _, after hbel hb2, ⟨fun t ht => ?_, I.out.2⟩⟩
          rcases Nat.lt_succ_iff_lt_or_eq.1 ht with e | e
          · have h3 := HK.out.2 t _ e hmid; have h4 := HY.out; omega
          · have h4 := HY.out; rw [e, h4]; omega
      · have dd : decide (y - key < 0) = false := by simpa using hyx
        go_wp2_with (first | (go_at_call 60; refine (cmpKey_any y _ _ key _ ky h2).mono ?_; rintro e w2 ⟨rfl, hb2⟩))
        go_roundg ((lo + hi) / 2 - lo)
        case measure => omega
        case rel =>
          refine ⟨lo, (lo + hi) / 2, rfl, by rw [show ((lo : Int) + (hi : Int)) / 2 = (((lo + hi) / 2 : Nat) : Int) by omega], by omega, by omega, Nat.le_refl _, after hbel hb2, ⟨I.out.1, fun t ht htn => ?_⟩⟩
          rcases Nat.lt_or_eq_of_le ht with e | e
          · have h3 := HK.out.2 _ t e htn; have h4 := HY.out; omega
          · have h4 := HY.out; rw [← e, h4]; omega
    · obtain rfl : hi = lo := by omega
      have HA : Hid (IsAt N K key hi) := ⟨hin, I.out.1, I.out.2⟩
      by_cases hn : hi < N
      · obtain ⟨b, off, ha, hc, qa, qc, rfl, c0, c1, c2, _⟩ := HX.out hi hn
        have hb := World.block_lt_of_cell? w _ c0
        have d0 := (hbel.cell (p := ⟨b, off + hi * 3, none⟩) hb).trans c0
        have d1 := (hbel.cell (p := ⟨b, off + hi * 3 + 1, none⟩) hb).trans c1
        have d2 := (hbel.cell (p := ⟨b, off + hi * 3 + 2, none⟩) hb).trans c2
        clear c0 c1 c2
        have ky := HK.out.1 _ hn
        generalize hy : K hi = y at d0 ky
        have HY : Hid (K hi = y) := hy
        clear hy
        have e0 : decide ((hi : Int) < (N : Int)) = true := by simp; omega
        by_cases hyx : y - key = 0
        · have HD : Hid (decide (hi < N ∧ K hi = key) = true) := decide_eq_true ⟨hn, by rw [HY.out]; omega⟩
          have ee : (y - key == 0) = true := by simpa using hyx
          go_wp2_with (first | (go_at_call 60; refine (cmpKey_any y _ _ key _ ky h2).mono ?_; rintro e w2 ⟨rfl, hb2⟩))
          exact bodyPost_ret (v := .tuple #[.int .i64 hi, .bool true]) (by simp [results, Try.results59, go_sem]) rfl ⟨⟨hi, by rw [HD.out], HA⟩, after hbel hb2⟩
        · have HD : Hid (decide (hi < N ∧ K hi = key) = false) := decide_eq_false (fun h => hyx (by have := h.2; rw [HY.out] at this; omega))
          have ee : (y - key == 0) = false := by simpa using hyx
          go_wp2_with (first | (go_at_call 60; refine (cmpKey_any y _ _ key _ ky h2).mono ?_; rintro e w2 ⟨rfl, hb2⟩))
          exact bodyPost_ret (v := .tuple #[.int .i64 hi, .bool false]) (by simp [results, Try.results59, go_sem]) rfl ⟨⟨hi, by rw [HD.out], HA⟩, after hbel hb2⟩
      · have HD : Hid (decide (hi < N ∧ K hi = key) = false) := decide_eq_false (fun h => hn h.1)
        have e0 : decide ((hi : Int) < (N : Int)) = false := by simp; omega
        go_wp2
        exact bodyPost_ret (v := .tuple #[.int .i64 hi, .bool false]) (by simp [results, Try.results59, go_sem]) rfl ⟨⟨hi, by rw [HD.out], HA⟩, hbel⟩

set_option maxRecDepth 100000 in
theorem findKey_any (ao : Option Addr) (N c : Nat) (K : Nat → Int) (H Q : Nat → Line) (key : Int) (w : World) (hN : N ≤ 60) (hk : KeysUp N K) (h2 : 0 ≤ key ∧ key ≤ 100000) (hx : LocksAt w ao N K H Q) :
    Calls Try.prog 45 #[.slice ao N c, .int .i64 key] w fun e w' => (∃ p : Nat, e = .returned (.tuple #[.int .i64 p, .bool (decide (p < N ∧ K p = key))]) ∧ Hid (IsAt N K key p)) ∧ Below w.heap.size w w' := by
  go_enter Try.func45, Try.ntmps45
  go_wp2_with fail
  refine (search_any ao N c K H Q key w hN hk h2 hx).mono ?_
  rintro e w2 ⟨⟨p, rfl, hp⟩, hb⟩
  go_wp2
  exact bodyPost_ret (v := .tuple #[.int .i64 p, .bool (decide (p < N ∧ K p = key))]) (by simp [results, Try.results45, go_sem]) rfl ⟨⟨p, rfl, hp⟩, hb⟩

set_option maxRecDepth 100000 in
theorem roomForKey_any (ao : Option Addr) (N c : Nat) (K : Nat → Int) (H Q : Nat → Line) (key : Int) (w : World) (hN : N ≤ 60) (hk : KeysUp N K) (h2 : 0 ≤ key ∧ key ≤ 100000) (hx : LocksAt w ao N K H Q) :
    Calls Try.prog 22 #[.slice ao N c, .int .i64 key] w fun e w' => (∃ p : Nat, e = .returned (.bool (decide ((p < N ∧ K p = key) ∨ N < 60))) ∧ Hid (IsAt N K key p)) ∧ Below w.heap.size w w' := by
  go_enter Try.func22, Try.ntmps22
  go_wp2_with fail
  refine (findKey_any ao N c K H Q key w hN hk h2 hx).mono ?_
  rintro e w2 ⟨⟨p, rfl, hp⟩, hb⟩
  by_cases hf : p < N ∧ K p = key
  · have HD : Hid (decide ((p < N ∧ K p = key) ∨ N < 60) = true) := decide_eq_true (.inl hf)
    have ef : decide (p < N ∧ K p = key) = true := decide_eq_true hf
    rw [ef]
    clear hf ef
    go_wp2
    go_ret
    exact ⟨⟨p, by rw [HD.out]; rfl, hp⟩, hb⟩
  · have ef : decide (p < N ∧ K p = key) = false := decide_eq_false hf
    rw [ef]
    by_cases h60 : N < 60
    · have HD : Hid (decide ((p < N ∧ K p = key) ∨ N < 60) = true) := decide_eq_true (.inr h60)
      have e6 : decide ((N : Int) < 60) = true := by simp; omega
      clear hf ef
      go_wp2
      go_ret
      exact ⟨⟨p, by rw [HD.out]; rfl, hp⟩, hb⟩
    · have HD : Hid (decide ((p < N ∧ K p = key) ∨ N < 60) = false) := decide_eq_false (fun h => h.elim hf h60)
      have e6 : decide ((N : Int) < 60) = false := by simp; omega
      clear hf ef
      go_wp2
      go_ret
      exact ⟨⟨p, by rw [HD.out]; rfl, hp⟩, hb⟩

end Go.Proofs.Ytdmkpflphjemoaa

/-
  OWN TEXT: PlainHj, InI, NameI, ImplS1.
-/
import Derived.Test.YtlelckbeoclhbaaGreatRows
import Derived.Deep.RegionHeld3
import Derived.Deep.LoopGhost
import Derived.Deep.DeepCutAuto
import Derived.Test.YtlelckbeoclhbaaGreatB11
import Derived.Test.YtlelckbeoclhbaaGreatB06
set_option maxHeartbeats 12800000
set_option maxRecDepth 100000
namespace Go.Proofs.YtlelckbeoclhbaaGreat
open Go.RowKit Classical
noncomputable def onL (P : Nat → Prop) : Nat → List Nat
  | 0 => []
  | n + 1 => if P n then onL P n ++ [n] else onL P n
theorem onL_yes {P : Nat → Prop} {n : Nat} (h : P n) : onL P (n + 1) = onL P n ++ [n] := by rw [onL, if_pos h]
theorem onL_no {P : Nat → Prop} {n : Nat} (h : ¬ P n) : onL P (n + 1) = onL P n := by rw [onL, if_neg h]
noncomputable def onI (P : Nat → Prop) (n j : Nat) : Nat := (onL P n).getD j 0
theorem onI_last (P : Nat → Prop) {n : Nat} (h : P n) : onI P (n + 1) (onL P n).length = n := by unfold onI; rw [onL_yes h]; simp
theorem onI_old (P : Nat → Prop) {n j : Nat} (hj : j < (onL P n).length) : onI P (n + 1) j = onI P n j := by
  unfold onI
  by_cases h : P n
  · rw [onL_yes h, List.getD_eq_getElem?_getD, List.getD_eq_getElem?_getD, List.getElem?_append_left hj]
  · rw [onL_no h]
theorem onL_len (P : Nat → Prop) (n : Nat) : (onL P n).length = cnt P n := by
  induction n with
  | zero => rfl
  | succ n ih =>
    by_cases h : P n
    · rw [onL_yes h, cnt_yes h, List.length_append, ih]; rfl
    · rw [onL_no h, cnt_no h, ih]
theorem onI_is (P : Nat → Prop) (n : Nat) : ∀ j, j < (onL P n).length → onI P n j < n ∧ P (onI P n j) := by
  induction n with
  | zero => intro j hj; simp [onL] at hj
  | succ n ih =>
    intro j hj
    by_cases h : P n
    · rw [onL_yes h, List.length_append] at hj
      by_cases e : j = (onL P n).length
      · subst e; rw [onI_last P h]; exact ⟨by omega, h⟩
      · have hj' : j < (onL P n).length := by simp at hj; omega
        rw [onI_old P hj']; have := ih j hj'; exact ⟨by omega, this.2⟩
    · rw [onL_no h] at hj
      rw [onI_old P hj]; have := ih j hj; exact ⟨by omega, this.2⟩
theorem onI_all (P : Nat → Prop) (n : Nat) : ∀ i, i < n → P i → ∃ j, j < (onL P n).length ∧ onI P n j = i := by
  induction n with
  | zero => intro i hi; omega
  | succ n ih =>
    intro i hi hp
    by_cases e : i = n
    · subst e
      exact ⟨(onL P i).length, by rw [onL_yes hp]; simp, onI_last P hp⟩
    · obtain ⟨j, hj, hx⟩ := ih i (by omega) hp
      refine ⟨j, ?_, by rw [onI_old P hj]; exact hx⟩
      by_cases h : P n
      · rw [onL_yes h, List.length_append]; omega
      · rw [onL_no h]; exact hj
theorem cnt_congr {P Q : Nat → Prop} {n : Nat} (h : ∀ i, i < n → (P i ↔ Q i)) : cnt P n = cnt Q n := by
  induction n with
  | zero => rfl
  | succ n ih =>
    have i1 := ih (fun i hi => h i (by omega))
    have h1 := h n (by omega)
    by_cases c : P n
    · rw [cnt_yes c, cnt_yes (h1.1 c), i1]
    · rw [cnt_no c, cnt_no (fun q => c (h1.2 q)), i1]
theorem cnt_on (P Q : Nat → Prop) (n : Nat) : cnt (fun j => Q (onI P n j)) (onL P n).length = cnt (fun i => P i ∧ Q i) n := by
  induction n with
  | zero => rfl
  | succ n ih =>
    have key : cnt (fun j => Q (onI P (n + 1) j)) (onL P n).length = cnt (fun i => P i ∧ Q i) n := by
      rw [← ih]; exact cnt_congr (fun j hj => by rw [onI_old P hj])
    by_cases h : P n
    · rw [show (onL P (n + 1)).length = (onL P n).length + 1 by rw [onL_yes h]; simp]
      by_cases q : Q n
      · rw [cnt_yes (P := fun j => Q (onI P (n + 1) j)) (by rw [onI_last P h]; exact q), cnt_yes (P := fun i => P i ∧ Q i) ⟨h, q⟩, key]
      · rw [cnt_no (P := fun j => Q (onI P (n + 1) j)) (by rw [onI_last P h]; exact q), cnt_no (P := fun i => P i ∧ Q i) (fun c => q c.2), key]
    · rw [onL_no h, cnt_no (P := fun i => P i ∧ Q i) (fun c => h c.1)]
      rw [← ih]
      exact cnt_congr (fun j hj => by rw [onI_old P hj])
def NoCar (b : Book) : Prop := b.len = 0 ∧ b.hei = 0
instance (b : Book) : Decidable (NoCar b) := by unfold NoCar; exact inferInstance
def NoCab (b : Book) : Prop := b.cl = 0 ∧ b.all = false ∧ b.be = 0
instance (b : Book) : Decidable (NoCab b) := by unfold NoCab; exact inferInstance
def HoldC (l : Load) (b : Book) : Prop := NoCar b ∨ (ixOf (whoS l.st) b.who l.stn < l.stn ∧ (l.st (ixOf (whoS l.st) b.who l.stn)).len = b.len ∧ (l.st (ixOf (whoS l.st) b.who l.stn)).hei = b.hei)
def HoldR (s : Sail) (l : Load) (b : Book) : Prop := NoCab b ∨ (ixOf (whoR l.ro) b.who l.ron < l.ron ∧ (l.ro (ixOf (whoR l.ro) b.who l.ron)).all = b.all ∧ (b.all = true ∨ (l.ro (ixOf (whoR l.ro) b.who l.ron)).many = b.be) ∧ s.ca.A (l.ro (ixOf (whoR l.ro) b.who l.ron)).cab.toNat = b.cl)
def HoldT (l : Load) (b : Book) : Prop := ixOf (whoT l.se) b.who l.sen < l.sen ∧ (l.se (ixOf (whoT l.se) b.who l.sen)).many = b.pe
def Holds (s : Sail) (l : Load) (b : Book) : Prop := HoldC l b ∧ HoldR s l b ∧ HoldT l b
def Just (s : Sail) (l : Load) (m : Nat) (B : Nat → Book) : Prop :=
  (∀ j, j < m → Holds s l (B j)) ∧ l.stn = cnt (fun j => ¬ NoCar (B j)) m ∧ l.ron = cnt (fun j => ¬ NoCab (B j)) m ∧ l.sen = m
theorem one_of {F : Nat → Int} {n : Nat} (h : ∀ i, i < n → ¬ Has F i (F i)) {j x : Nat} (hj : j < n) (hx : x < n) (e : F j = F x) : j = x := by
  by_cases c : j < x
  · exact absurd ⟨j, c, e⟩ (h x hx)
  · by_cases c2 : x < j
    · exact absurd ⟨x, c2, e.symm⟩ (h j hj)
    · omega
theorem ixOf_one {F : Nat → Int} {n : Nat} (h : ∀ i, i < n → ¬ Has F i (F i)) {j : Nat} {q : Int} (hj : j < n) (e : F j = q) : ixOf F q n = j := by
  have hh : ixOf F q n < n := (has_iff F n q).1 ⟨j, hj, e⟩
  exact (one_of h hj hh (e.trans (ixOf_at F q n hh).symm)).symm
theorem noCar_iff {b : Book} (h : PartyOk b.p) : NoCar b ↔ b.len = 0 := by
  unfold NoCar
  constructor
  · exact fun h => h.1
  · intro e
    rcases h.2.1 with c | c
    · exact c
    · have := c.1; unfold In Book.p at this; simp at this; omega
theorem hasCar_iff {b : Book} (h : PartyOk b.p) : ¬ NoCar b ↔ 0 < b.len := by
  rw [noCar_iff h]
  rcases h.2.1 with c | c
  · have := c.1; unfold Book.p at this; simp at this; omega
  · have := c.1; unfold In Book.p at this; simp at this; omega
theorem noCab_iff {b : Book} (h : PartyOk b.p) : NoCab b ↔ b.cl = 0 := by
  unfold NoCab
  constructor
  · exact fun h => h.1
  · intro e
    rcases h.2.2 with c | c
    · exact c
    · have := c.1; unfold In Book.p at this; simp at this; omega
theorem hasCab_iff {b : Book} (h : PartyOk b.p) : ¬ NoCab b ↔ 0 < b.cl := by
  rw [noCab_iff h]
  rcases h.2.2 with c | c
  · have := c.1; unfold Book.p at this; simp at this; omega
  · have := c.1; unfold In Book.p at this; simp at this; omega
theorem holds_iff {s : Sail} {l : Load} {b : Book} (hl : LoadOk s l) (hp : PartyOk b.p) : Holds s l b ↔ StandsB s l b := by
  obtain ⟨hd, hr, hs⟩ := hl
  have u1 : ∀ i, i < l.stn → ¬ Has (whoS l.st) i (whoS l.st i) := fun i hi => (hd.2.2.1 i hi).2.2.2.2
  have u2 : ∀ i, i < l.ron → ¬ Has (whoR l.ro) i (whoR l.ro i) := fun i hi => (hr.2.2.1 i hi).1.2.1
  have u3 : ∀ i, i < l.sen → ¬ Has (whoT l.se) i (whoT l.se i) := fun i hi => (hs.2.2.1 i hi).2.1
  unfold Holds StandsB HoldC HoldR HoldT
  rw [noCar_iff hp, noCab_iff hp]
  constructor
  · rintro ⟨h1, h2, h3⟩
    refine ⟨⟨_, h3.1, ixOf_at (whoT l.se) _ _ h3.1, h3.2⟩, ?_, ?_⟩
    · rcases h1 with h | h
      · exact .inl h
      · exact .inr ⟨_, h.1, ixOf_at (whoS l.st) _ _ h.1, h.2.1, h.2.2⟩
    · rcases h2 with h | h
      · exact .inl h
      · exact .inr ⟨_, h.1, ixOf_at (whoR l.ro) _ _ h.1, h.2.1, h.2.2.2, h.2.2.1⟩
  · rintro ⟨⟨j, hj, e1, e2⟩, h2, h3⟩
    refine ⟨?_, ?_, ?_⟩
    · rcases h2 with h | ⟨i, hi, c1, c2, c3⟩
      · exact .inl h
      · have e : ixOf (whoS l.st) b.who l.stn = i := ixOf_one u1 hi c1
        rw [e]; exact .inr ⟨hi, c2, c3⟩
    · rcases h3 with h | ⟨i, hi, c1, c2, c3, c4⟩
      · exact .inl h
      · have e : ixOf (whoR l.ro) b.who l.ron = i := ixOf_one u2 hi c1
        rw [e]; exact .inr ⟨hi, c2, c4, c3⟩
    · have e : ixOf (whoT l.se) b.who l.sen = j := ixOf_one u3 hj e1
      rw [e]; exact ⟨hj, e2⟩
theorem just_iff {o : Off} {k : Nat} (hk : LoadOk (o.sa k) (o.ld k)) (hb : ∀ i, i < o.bkn → PartyOk (o.bk i).p) :
    Just (o.sa k) (o.ld k) (onL (On o k) o.bkn).length (fun j => o.bk (onI (On o k) o.bkn j)) ↔ Tallies o k := by
  have hp : ∀ j, j < (onL (On o k) o.bkn).length → PartyOk (o.bk (onI (On o k) o.bkn j)).p := fun j hj => hb _ (onI_is (On o k) o.bkn j hj).1
  have c1 : cnt (fun j => ¬ NoCar (o.bk (onI (On o k) o.bkn j))) (onL (On o k) o.bkn).length = cnt (fun i => On o k i ∧ 0 < (o.bk i).len) o.bkn := by
    rw [← cnt_on (On o k) (fun i => 0 < (o.bk i).len) o.bkn]
    exact cnt_congr (fun j hj => hasCar_iff (hp j hj))
  have c2 : cnt (fun j => ¬ NoCab (o.bk (onI (On o k) o.bkn j))) (onL (On o k) o.bkn).length = cnt (fun i => On o k i ∧ 0 < (o.bk i).cl) o.bkn := by
    rw [← cnt_on (On o k) (fun i => 0 < (o.bk i).cl) o.bkn]
    exact cnt_congr (fun j hj => hasCab_iff (hp j hj))
  unfold Just Tallies
  rw [c1, c2, onL_len]
  constructor
  · rintro ⟨h, r⟩
    refine ⟨fun i hi ho => ?_, r⟩
    obtain ⟨j, hj, rfl⟩ := onI_all (On o k) o.bkn i hi ho
    exact (holds_iff hk (hp j hj)).1 (h j (by rw [← onL_len]; exact hj))
  · rintro ⟨h, r⟩
    refine ⟨fun j hj => ?_, r⟩
    rw [← onL_len] at hj
    have := onI_is (On o k) o.bkn j hj
    exact (holds_iff hk (hp j hj)).2 (h _ this.1 this.2)
end Go.Proofs.YtlelckbeoclhbaaGreat

namespace Go.Proofs.YtlelckbeoclhbaaGreat
open Go.RowKit
theorem within_yes (x lo hi : Int) (w : World) (h : In x lo hi) :
    Calls Tryz.prog 143 #[.int .i64 x, .int .i64 lo, .int .i64 hi] w fun e w' => e = .returned (.bool true) ∧ w' = w := by
  have e1 : decide (lo ≤ x) = true := by simpa using h.1
  have e2 : decide (x ≤ hi) = true := by simpa using h.2
  clear h
  go_enter Tryz.func143, Tryz.ntmps143
  go_wp2
  go_ret
  exact ⟨rfl, rfl⟩
theorem within_no (x lo hi : Int) (w : World) (h : ¬ In x lo hi) :
    Calls Tryz.prog 143 #[.int .i64 x, .int .i64 lo, .int .i64 hi] w fun e w' => e = .returned (.bool false) ∧ w' = w := by
  by_cases h1 : lo ≤ x
  · have e1 : decide (lo ≤ x) = true := by simpa using h1
    have e2 : decide (x ≤ hi) = false := by simp; exact Int.not_le.1 (fun h2 => h ⟨h1, h2⟩)
    clear h h1
    go_enter Tryz.func143, Tryz.ntmps143
    go_wp2
    go_ret
    exact ⟨rfl, rfl⟩
  · have e1 : decide (lo ≤ x) = false := by simpa using h1
    clear h h1
    go_enter Tryz.func143, Tryz.ntmps143
    go_wp2
    go_ret
    exact ⟨rfl, rfl⟩
theorem within_is (x lo hi : Int) (w : World) :
    Calls Tryz.prog 143 #[.int .i64 x, .int .i64 lo, .int .i64 hi] w fun e w' => e = .returned (.bool (decide (In x lo hi))) ∧ w' = w := by
  by_cases h : In x lo hi
  · rw [decide_eq_true h]; exact within_yes x lo hi w h
  · rw [decide_eq_false h]; exact within_no x lo hi w h
end Go.Proofs.YtlelckbeoclhbaaGreat

namespace Go.Proofs.YtlelckbeoclhbaaGreat
open Go.RowKit
theorem isLetter_is (b : Int) (w : World) : Calls Tryz.prog 170 #[.int .u8 b] w fun e w' => e = .returned (.bool (decide (Letter b))) ∧ w' = w := by
  obtain ⟨c, hc⟩ : ∃ c, c = decide (Letter b) := ⟨_, rfl⟩
  rw [← hc]
  have HC : Hid (c = decide (Letter b)) := hc
  clear hc
  by_cases h1 : 97 ≤ b
  · have e1 : decide (97 ≤ b) = true := by simpa using h1
    by_cases h2 : b ≤ 122
    · have e2 : decide (b ≤ 122) = true := by simpa using h2
      go_enter Tryz.func170, Tryz.ntmps170
      go_wp2
      go_ret
      exact ⟨by rw [HC.out, decide_eq_true (.inl ⟨h1, h2⟩)]; rfl, rfl⟩
    · have e2 : decide (b ≤ 122) = false := by simpa using h2
      have e3 : decide (65 ≤ b) = true := by simp; omega
      have e4 : decide (b ≤ 90) = false := by simp; omega
      go_enter Tryz.func170, Tryz.ntmps170
      go_wp2
      go_ret
      exact ⟨by rw [HC.out, decide_eq_false (by rintro (h | h) <;> omega)]; rfl, rfl⟩
  · have e1 : decide (97 ≤ b) = false := by simpa using h1
    by_cases h3 : 65 ≤ b
    · have e3 : decide (65 ≤ b) = true := by simpa using h3
      by_cases h4 : b ≤ 90
      · have e4 : decide (b ≤ 90) = true := by simpa using h4
        go_enter Tryz.func170, Tryz.ntmps170
        go_wp2
        go_ret
        exact ⟨by rw [HC.out, decide_eq_true (.inr ⟨h3, h4⟩)]; rfl, rfl⟩
      · have e4 : decide (b ≤ 90) = false := by simpa using h4
        go_enter Tryz.func170, Tryz.ntmps170
        go_wp2
        go_ret
        exact ⟨by rw [HC.out, decide_eq_false (by rintro (h | h) <;> omega)]; rfl, rfl⟩
    · have e3 : decide (65 ≤ b) = false := by simpa using h3
      go_enter Tryz.func170, Tryz.ntmps170
      go_wp2
      go_ret
      exact ⟨by rw [HC.out, decide_eq_false (by rintro (h | h) <;> omega)]; rfl, rfl⟩
theorem isName_any (s : ByteArray) (w : World) (hs : s.size ≤ 1000000000000000) :
    Calls Tryz.prog 149 #[.string s] w fun e w' => SaysIf (IsName s) e ∧ w' = w := by
  by_cases h0 : In (s.size : Int) 1 12
  · have HI : Hid (In (s.size : Int) 1 12) := h0
    have d0 : decide (In (s.size : Int) 1 12) = true := decide_eq_true h0
    have hs2 : s.size ≤ 12 := by have := h0.2; omega
    clear h0
    go_enter Tryz.func149, Tryz.ntmps149
    go_wp2_with (first | (go_at_call 143; refine (within_is _ _ _ _).mono ?_; rintro e w' ⟨rfl, hw'⟩; have hw' := hw'.symm; subst hw'))
    go_loop [3, 10] (fun _ i => ∃ k : Nat, k ≤ s.size ∧ i = .int .i64 k ∧ ∀ j, j < k → Letter (byteAt s j)) (fun _ i => s.size - (intOf i).toNat)
    case atStart => exact ⟨0, Nat.zero_le _, rfl, fun j hj => by omega⟩
    case round =>
      obtain ⟨k, hk, rfl, hall⟩ := hrel
      have HA : Hid (∀ j, j < k → Letter (byteAt s j)) := hall
      clear hall
      by_cases hlt : k < s.size
      · by_cases hL : Letter (byteAt s k)
        · have dL : decide (Letter (byteAt s k)) = true := decide_eq_true hL
          have HK : Hid (Letter (byteAt s k)) := hL
          clear hL
          rw [← byteAt_is s k hlt] at dL
          go_wp2_with (first | (go_at_call 170; refine (isLetter_is _ _).mono ?_; rintro e w' ⟨rfl, hw'⟩; have hw' := hw'.symm; subst hw'))
          go_round
          case rel => exact ⟨k + 1, by omega, by go_num, fun j hj => by
            by_cases e : j = k
            · subst e; exact HK.out
            · exact HA.out j (by omega)⟩
          case measure => simp [intOf]; omega
        · have dL : decide (Letter (byteAt s k)) = false := decide_eq_false hL
          have HK : Hid (¬ Letter (byteAt s k)) := hL
          clear hL
          rw [← byteAt_is s k hlt] at dL
          go_wp2_with (first | (go_at_call 170; refine (isLetter_is _ _).mono ?_; rintro e w' ⟨rfl, hw'⟩; have hw' := hw'.symm; subst hw'))
          go_ret
          exact ⟨says_no (fun h => HK.out (h.2.2 k hlt)), rfl⟩
      · obtain rfl : k = s.size := by omega
        go_wp2
        go_ret
        exact ⟨says_yes ⟨by have := HI.out.1; omega, by have := HI.out.2; omega, HA.out⟩, rfl⟩
  · have HI : Hid (¬ In (s.size : Int) 1 12) := h0
    have d0 : decide (In (s.size : Int) 1 12) = false := decide_eq_false h0
    clear h0
    go_enter Tryz.func149, Tryz.ntmps149
    go_wp2_with (first | (go_at_call 143; refine (within_is _ _ _ _).mono ?_; rintro e w' ⟨rfl, hw'⟩; have hw' := hw'.symm; subst hw'))
    go_ret
    exact ⟨says_no (fun h => HI.out ⟨by have := h.1; omega, by have := h.2.1; omega⟩), rfl⟩
theorem isName_is (s : ByteArray) (w : World) (hs : s.size ≤ 1000000000000000) :
    Calls Tryz.prog 149 #[.string s] w fun e w' => e = .returned (.bool (decide (IsName s))) ∧ w' = w := by
  refine (isName_any s w hs).mono ?_
  rintro e w' ⟨⟨b', rfl, h⟩, rfl⟩
  rw [bool_eq h (decide_eq_true_iff (p := IsName s))]
  exact ⟨rfl, rfl⟩
end Go.Proofs.YtlelckbeoclhbaaGreat

namespace Go.Proofs.YtlelckbeoclhbaaGreat
open Go.RowKit
theorem sailingId_is (x : Int) (w : World) :
    Calls Tryz.prog 139 #[.int .i64 x] w fun e w' => e = .returned (.bool (decide (In x 1 99))) ∧ w' = w := by
  go_enter Tryz.func139, Tryz.ntmps139
  go_wp2_with (first | (go_at_call 143; refine (within_is _ _ _ _).mono ?_; rintro e w' ⟨rfl, rfl⟩))
  go_ret
  exact ⟨rfl, rfl⟩
theorem unlikeNames_is (a b : ByteArray) (w : World) (ha : a.size ≤ 1000000000000000) (hb : b.size ≤ 1000000000000000) :
    Calls Tryz.prog 140 #[.string a, .string b] w fun e w' => e = .returned (.bool (decide (Unlike a b))) ∧ w' = w := by
  obtain ⟨c, hc⟩ : ∃ c, c = decide (Unlike a b) := ⟨_, rfl⟩
  rw [← hc]
  have HC : Hid (c = decide (Unlike a b)) := hc
  clear hc
  by_cases n1 : IsName a
  · have d1 : decide (IsName a) = true := decide_eq_true n1
    by_cases n2 : IsName b
    · have d2 : decide (IsName b) = true := decide_eq_true n2
      by_cases n3 : a = b
      · subst n3
        have e3 : (a.toList == a.toList) = true := bytes_eq.2 rfl
        have HN : Hid (¬ Unlike a a) := fun h => h.2.2 rfl
        clear n1 n2
        go_enter Tryz.func140, Tryz.ntmps140
        go_wp2_with (first | (go_at_call 149; refine (isName_is _ _ ha).mono ?_; rintro e w' ⟨rfl, hw'⟩; have hw' := hw'.symm; subst hw'))
        go_ret
        exact ⟨by rw [HC.out, decide_eq_false HN.out]; rfl, rfl⟩
      · have e3 : (a.toList == b.toList) = false := bytes_ne.2 n3
        have HN : Hid (Unlike a b) := ⟨n1, n2, n3⟩
        clear n1 n2 n3
        go_enter Tryz.func140, Tryz.ntmps140
        go_wp2_with fail
        refine (isName_is _ _ ha).mono ?_
        rintro e w' ⟨rfl, hw'⟩
        have hw' := hw'.symm
        subst hw'
        go_wp2_with fail
        refine (isName_is _ _ hb).mono ?_
        rintro e w' ⟨rfl, hw'⟩
        have hw' := hw'.symm
        subst hw'
        go_wp2
        go_ret
        exact ⟨by rw [HC.out, decide_eq_true HN.out]; rfl, rfl⟩
    · have d2 : decide (IsName b) = false := decide_eq_false n2
      have HN : Hid (¬ Unlike a b) := fun h => n2 h.2.1
      clear n1 n2
      go_enter Tryz.func140, Tryz.ntmps140
      go_wp2_with fail
      refine (isName_is _ _ ha).mono ?_
      rintro e w' ⟨rfl, hw'⟩
      have hw' := hw'.symm
      subst hw'
      go_wp2_with fail
      refine (isName_is _ _ hb).mono ?_
      rintro e w' ⟨rfl, hw'⟩
      have hw' := hw'.symm
      subst hw'
      go_wp2
      go_ret
      exact ⟨by rw [HC.out, decide_eq_false HN.out]; rfl, rfl⟩
  · have d1 : decide (IsName a) = false := decide_eq_false n1
    have HN : Hid (¬ Unlike a b) := fun h => n1 h.1
    clear n1
    go_enter Tryz.func140, Tryz.ntmps140
    go_wp2_with fail
    refine (isName_is _ _ ha).mono ?_
    rintro e w' ⟨rfl, hw'⟩
    have hw' := hw'.symm
    subst hw'
    go_wp2
    go_ret
    exact ⟨by rw [HC.out, decide_eq_false HN.out]; rfl, rfl⟩
end Go.Proofs.YtlelckbeoclhbaaGreat

/-
  OWN TEXT: HasI, OnI, JustI, FitsI.
-/
import Derived.Deep.LoopGhost
import Derived.Deep.DeepCutAuto
import Derived.Test.YtlelckbeoclhbaaGreatB17
import Derived.Test.YtlelckbeoclhbaaGreatB06
import Derived.Test.YtlelckbeoclhbaaGreatB02
import Derived.Test.YtlelckbeoclhbaaGreatB00
import Derived.Test.YtlelckbeoclhbaaGreatB22
import Derived.Test.YtlelckbeoclhbaaGreatB21
import Derived.Test.YtlelckbeoclhbaaGreatB07
import Derived.Test.YtlelckbeoclhbaaGreatB11
set_option maxHeartbeats 12800000
set_option maxRecDepth 100000
namespace Go.Proofs.YtlelckbeoclhbaaGreat
open Go.RowKit
theorem indexInt_any (ao : Option Addr) (n c : Nat) (G : Nat → Int) (x : Int) (w : World) (hn : n ≤ 1048576) (hz : IntsAt w ao n G) :
    Calls Tryz.prog 155 #[.slice ao n c, .int .i64 x] w fun e w' => e = .returned (.int .i64 (ixAns G x n)) ∧ w' = w := by
  go_enter Tryz.func155, Tryz.ntmps155
  go_wp2
  go_loopw [5, 8] (fun _ i wr => ∃ k : Nat, k ≤ n ∧ i = .int .i64 k ∧ (∀ j, j < k → G j ≠ x) ∧ wr = w) (fun _ i _ => n - (intOf i).toNat)
  case atStart => exact ⟨0, Nat.zero_le _, rfl, fun j hj => by omega, rfl⟩
  case round =>
    obtain ⟨k, hk, rfl, hall, rfl⟩ := hrel
    have HA : Hid (∀ j, j < k → G j ≠ x) := hall
    clear hall
    by_cases hlt2 : k < n
    · obtain ⟨b, off, rfl, h0⟩ := hz k hlt2
      by_cases he : G k = x
      · have e1 : (x == G k) = true := by rw [he]; simp
        have HF : Hid (ixAns G x n = k) := by
          have : ixOf G x n = k := ixOf_is hlt2 he HA.out
          unfold ixAns Hid
          rw [this, if_pos hlt2]
        clear he
        go_wp2
        go_ret
        exact ⟨by rw [HF.out]; rfl, rfl⟩
      · have e1 : (x == G k) = false := by simpa using fun h => he h.symm
        have HE : Hid (G k ≠ x) := he
        clear he
        go_wp2
        go_roundw
        case rel => exact ⟨k + 1, by omega, by go_num, fun j hj => by
          by_cases e : j = k
          · subst e; exact HE.out
          · exact HA.out j (by omega), trivial⟩
        case measure => simp [intOf]; omega
    · obtain rfl : k = n := by omega
      have HF : Hid (ixAns G x k = -1) := ixAns_no (not_has HA.out)
      go_wp2
      go_ret
      exact ⟨by rw [HF.out]; rfl, rfl⟩
theorem hasInt_any (ao : Option Addr) (n c : Nat) (G : Nat → Int) (x : Int) (w : World) (hn : n ≤ 1048576) (hz : IntsAt w ao n G) :
    Calls Tryz.prog 120 #[.slice ao n c, .int .i64 x] w fun e w' => SaysIf (Has G n x) e ∧ w' = w := by
  obtain ⟨r, hr⟩ : ∃ r, r = ixAns G x n := ⟨_, rfl⟩
  have HR : Hid (r = ixAns G x n) := hr
  clear hr
  go_enter Tryz.func120, Tryz.ntmps120
  go_wp2_with fail
  refine (indexInt_any ao n c G x _ hn hz).mono ?_
  rw [← HR.out]
  rintro e w1 ⟨rfl, hw⟩
  have hw := hw.symm
  subst hw
  by_cases h : Has G n x
  · have e1 : decide (0 ≤ r) = true := by rw [HR.out]; unfold ixAns; rw [if_pos ((has_iff _ _ _).1 h)]; simp
    have HH : Hid (Has G n x) := h
    clear h
    go_wp2
    go_ret
    exact ⟨says_yes HH.out, rfl⟩
  · have e1 : decide (0 ≤ r) = false := by rw [HR.out, ixAns_no h]; rfl
    have HH : Hid (¬ Has G n x) := h
    clear h
    go_wp2
    go_ret
    exact ⟨says_no HH.out, rfl⟩
theorem isLive_any (b : Book) (alg : Option Addr) (clg : Nat) (w : World) :
    Calls Tryz.prog 119 #[.agg #[.int .i64 b.name, .int .i64 b.who, .string b.own, .slice alg b.lgn clg, .int .i64 b.pe, .int .i64 b.len, .int .i64 b.hei, .int .i64 b.cl, .bool b.all, .int .i64 b.be, .int .i64 b.state, .int .i64 b.unt, .int .i64 b.price]] w fun e w' => SaysIf (Live b) e ∧ Below w.heap.size w w' := by
  by_cases s1 : b.state = 1
  · have e1 : (b.state == 1) = true := by simpa using s1
    have HL : Hid (Live b) := .inl s1
    clear s1
    go_enter Tryz.func119, Tryz.ntmps119
    go_wp2
    go_ret
    exact ⟨says_yes HL.out, push (Below.refl _ _) _⟩
  · have e1 : (b.state == 1) = false := by simpa using s1
    by_cases s2 : b.state = 2
    · have e2 : (b.state == 2) = true := by simpa using s2
      have HL : Hid (Live b) := .inr s2
      clear s1 s2
      go_enter Tryz.func119, Tryz.ntmps119
      go_wp2
      go_ret
      exact ⟨says_yes HL.out, push (Below.refl _ _) _⟩
    · have e2 : (b.state == 2) = false := by simpa using s2
      have HL : Hid (¬ Live b) := by intro h; rcases h with h | h; exact s1 h; exact s2 h
      clear s1 s2
      go_enter Tryz.func119, Tryz.ntmps119
      go_wp2
      go_ret
      exact ⟨says_no HL.out, push (Below.refl _ _) _⟩
end Go.Proofs.YtlelckbeoclhbaaGreat

namespace Go.Proofs.YtlelckbeoclhbaaGreat
open Go.RowKit
def OnB (b : Book) (z : Int) : Prop := Live b ∧ HasLeg b z
theorem hasLeg_iff (b : Book) (z : Int) : Has b.lg b.lgn z ↔ HasLeg b z := Iff.rfl
theorem on1_any (b : Book) (alg : Option Addr) (clg : Nat) (z : Int) (pa : Nat) (w : World) (hl : b.lgn ≤ 1048576) (hy : IntsAt w alg b.lgn b.lg) (hp : w.cell? ⟨pa, 0, none⟩ = some (.int .i64 z)) :
    Calls Tryz.prog 118 #[.agg #[.int .i64 b.name, .int .i64 b.who, .string b.own, .slice alg b.lgn clg, .int .i64 b.pe, .int .i64 b.len, .int .i64 b.hei, .int .i64 b.cl, .bool b.all, .int .i64 b.be, .int .i64 b.state, .int .i64 b.unt, .int .i64 b.price], .pointer (some ⟨pa, 0, none⟩)] w fun e w' => SaysIf (OnB b z) e ∧ Below w.heap.size w w' := by
  have hlt : pa < w.heap.size := World.block_lt_of_cell? w _ hp
  have HLG : Hid (IntsAt w alg b.lgn b.lg) := hy
  clear hy
  have hb0 : Below w.heap.size w (w.alloc (.cells #[.int .i64 b.name, .int .i64 b.who, .string b.own, .slice alg b.lgn clg, .int .i64 b.pe, .int .i64 b.len, .int .i64 b.hei, .int .i64 b.cl, .bool b.all, .int .i64 b.be, .int .i64 b.state, .int .i64 b.unt, .int .i64 b.price] 72)) := push (Below.refl _ _) _
  have b0 := heap_alloc_new w (.cells #[.int .i64 b.name, .int .i64 b.who, .string b.own, .slice alg b.lgn clg, .int .i64 b.pe, .int .i64 b.len, .int .i64 b.hei, .int .i64 b.cl, .bool b.all, .int .i64 b.be, .int .i64 b.state, .int .i64 b.unt, .int .i64 b.price] 72)
  go_enter Tryz.func118, Tryz.ntmps118
  go_wp2_with fail
  generalize w.alloc (.cells #[.int .i64 b.name, .int .i64 b.who, .string b.own, .slice alg b.lgn clg, .int .i64 b.pe, .int .i64 b.len, .int .i64 b.hei, .int .i64 b.cl, .bool b.all, .int .i64 b.be, .int .i64 b.state, .int .i64 b.unt, .int .i64 b.price] 72) = W at hb0 b0 ⊢
  refine (isLive_any b alg clg _).mono ?_
  rintro e w1 ⟨⟨t, rfl, ht⟩, hb1⟩
  have HT : Hid (t = true ↔ Live b) := ht
  have b1 := blk_below b0 hb1
  have hbw := after hb0 hb1
  have p1 := (hbw.cell hlt).trans hp
  clear ht b0 hb0 hb1 hp
  cases t with
  | false =>
    have HN : Hid (¬ OnB b z) := fun h => by have := HT.out.2 h.1; cases this
    go_wp2
    go_ret
    exact ⟨says_no HN.out, hbw⟩
  | true =>
    have HL : Hid (Live b) := HT.out.1 rfl
    have y3 := blk_cell b1 3 _ rfl
    clear HT
    go_wp2_with fail
    refine (hasInt_any alg b.lgn clg b.lg z _ hl (HLG.out.below hbw)).mono ?_
    rintro e w2 ⟨⟨u, rfl, hu⟩, hw⟩
    have hw := hw.symm
    subst hw
    have HU : Hid (u = true ↔ HasLeg b z) := hu
    clear hu
    cases u with
    | false =>
      have HN : Hid (¬ OnB b z) := fun h => by have := HU.out.2 h.2; cases this
      go_wp2
      go_ret
      exact ⟨says_no HN.out, hbw⟩
    | true =>
      have HN : Hid (OnB b z) := ⟨HL.out, HU.out.1 rfl⟩
      go_wp2
      go_ret
      exact ⟨says_yes HN.out, hbw⟩
noncomputable def onRow (C : Nat → List Value) (P : Nat → Prop) (n : Nat) : List Value := (List.range ((onL P n).length * 13)).map (recCell 13 (fun j => C (onI P n j)))
theorem recRow_snoc (sz : Nat) (C : Nat → List Value) (m : Nat) (v : List Value) (hv : v.length = sz) (hC : C m = v) : (List.range ((m + 1) * sz)).map (recCell sz C) = (List.range (m * sz)).map (recCell sz C) ++ v := by
  apply List.ext_getElem?
  intro i
  rw [List.getElem?_append, List.length_map, List.length_range]
  by_cases h1 : i < m * sz
  · rw [if_pos h1, List.getElem?_map, List.getElem?_map, List.getElem?_range h1, List.getElem?_range (by rw [Nat.add_mul]; omega)]
  · rw [if_neg h1]
    by_cases h2 : i < (m + 1) * sz
    · have h3 : i - m * sz < sz := by rw [Nat.add_mul] at h2; omega
      rw [List.getElem?_map, List.getElem?_range h2, Option.map_some]
      rw [show i = m * sz + (i - m * sz) by omega, recCell_at sz C m _ h3, hC, show m * sz + (i - m * sz) - m * sz = i - m * sz by omega, List.getD_eq_getElem?_getD, List.getElem?_eq_getElem (by omega)]
      rfl
    · rw [List.getElem?_eq_none (by simp; omega), List.getElem?_eq_none (by rw [Nat.add_mul] at h2; omega)]
theorem onRow_yes {C : Nat → List Value} {P : Nat → Prop} {n : Nat} (h : P n) (hv : (C n).length = 13) : onRow C P (n + 1) = onRow C P n ++ C n := by
  unfold onRow
  rw [show (onL P (n + 1)).length = (onL P n).length + 1 by rw [onL_yes h]; simp]
  rw [recRow_snoc 13 _ _ (C n) hv (by rw [onI_last P h])]
  congr 1
  refine List.map_congr_left fun j hj => ?_
  have hj' : j < (onL P n).length * 13 := by simpa using hj
  unfold recCell
  dsimp only
  rw [onI_old P (show j / 13 < (onL P n).length by omega)]
theorem onRow_no {C : Nat → List Value} {P : Nat → Prop} {n : Nat} (h : ¬ P n) : onRow C P (n + 1) = onRow C P n := by
  unfold onRow
  rw [onL_no h]
  refine List.map_congr_left fun j hj => ?_
  have hj' : j < (onL P n).length * 13 := by simpa using hj
  unfold recCell
  dsimp only
  rw [onI_old P (show j / 13 < (onL P n).length by omega)]
theorem onL_le (P : Nat → Prop) (n : Nat) : (onL P n).length ≤ n := by rw [onL_len]; exact cnt_le P n
theorem RecsAt.of_own {w : World} {base t sz n c : Nat} {ao : Option Addr} {C : Nat → List Value} (h : w.ownsRow base t sz (.slice ao n c) n ((List.range (n * sz)).map (recCell sz C))) : RecsAt w ao n sz C := by
  intro k hk
  obtain ⟨g, rfl, _, _⟩ := own_addr h (by omega)
  refine ⟨g, 0, rfl, fun j hj => ?_⟩
  have hlt : k * sz + j < n * sz := by
    have h1 : (k + 1) * sz ≤ n * sz := Nat.mul_le_mul_right sz hk
    rw [Nat.add_mul] at h1
    omega
  rw [Nat.zero_add, own_cell h _ hlt rfl, recCell_at sz C k j hj]
def OnAns (w' : World) (base : Nat) (n : Nat) (S : Nat → Book) (C : Nat → List Value) (z : Int) (e : Ending) : Prop :=
  ∃ ao c, e = .returned (.slice ao (onL (fun i => OnB (S i) z) n).length c) ∧ (onL (fun i => OnB (S i) z) n).length ≤ c ∧ w'.ownsRow base 72 13 (.slice ao (onL (fun i => OnB (S i) z) n).length c) (onL (fun i => OnB (S i) z) n).length (onRow C (fun i => OnB (S i) z) n)
theorem OnAns.base {w : World} {b1 b2 n : Nat} {S : Nat → Book} {C : Nat → List Value} {z : Int} {e : Ending} (h : OnAns w b1 n S C z e) (hb : b2 ≤ b1) : OnAns w b2 n S C z e := by
  obtain ⟨ao, c, rfl, hc, ho⟩ := h
  exact ⟨ao, c, rfl, hc, own_base ho hb⟩
theorem thoseBook_any (ao : Option Addr) (n c : Nat) (S : Nat → Book) (C : Nat → List Value) (z : Int) (pa : Nat) (w : World) (hn : n ≤ 1048576) (hs : BooksShort n S 1048576) (hC : RecsAt w ao n 13 C) (hI : ∀ k, k < n → Book.Is w (C k) (S k)) (hp : w.cell? ⟨pa, 0, none⟩ = some (.int .i64 z)) :
    Calls Tryz.prog 117 #[.slice ao n c, .func (.func 118) #[] #[.pointer (some ⟨pa, 0, none⟩)]] w fun e w' => OnAns w' w.heap.size n S C z e ∧ Below w.heap.size w w' := by
  obtain ⟨j0, ji, jz0, jz1, jz2⟩ := info_parts Tryz.infoBooking
  have hlt := World.block_lt_of_cell? w _ hp
  have HC : Hid (RecsAt w ao n 13 C) := hC
  have HI : Hid (∀ k, k < n → Book.Is w (C k) (S k)) := hI
  have HS : Hid (BooksShort n S 1048576) := hs
  have HP : Hid (w.cell? ⟨pa, 0, none⟩ = some (.int .i64 z)) := hp
  clear hC hI hs hp
  obtain ⟨P, hP⟩ : ∃ P : Nat → Prop, P = fun i => OnB (S i) z := ⟨_, rfl⟩
  have HPD : Hid (∀ i, P i ↔ OnB (S i) z) := fun i => by rw [hP]
  unfold OnAns
  rw [← hP]
  clear hP
  go_enter Tryz.func117, Tryz.ntmps117
  go_wp2
  go_loopw [5, 7, 10] (fun v _ i wr => ∃ k : Nat, k ≤ n ∧ i = .int .i64 k ∧ wr.ownsRow w.heap.size 72 13 v (onL P k).length (onRow C P k) ∧ Below w.heap.size w wr) (fun _ _ i _ => n - (intOf i).toNat)
  case atStart => exact ⟨0, Nat.zero_le _, rfl, World.ownsRow_nil _ _ _ _, Below.refl _ _⟩
  case round =>
    obtain ⟨k, hk, rfl, ho, hbel⟩ := hrel
    have HO : Hid (wr.ownsRow w.heap.size 72 13 u5 (onL P k).length (onRow C P k)) := ho
    clear ho
    by_cases hlt2 : k < n
    · obtain ⟨bb, bo, rfl, hc⟩ := HC.out k hlt2
      have hClen := (HI.out k hlt2).length
      obtain ⟨alg, clg, eC, hlg, _⟩ := HI.out k hlt2
      obtain ⟨b, hb⟩ : ∃ b, b = S k := ⟨_, rfl⟩
      rw [← hb] at eC hlg
      have HB : Hid (b = S k) := hb
      have HLG : Hid (IntsAt w alg b.lgn b.lg) := hlg
      have HCL : Hid ((C k).length = 13) := hClen
      have hsl : b.lgn ≤ 1048576 := by rw [hb]; exact (HS.out k hlt2).2
      have hltb : bb < w.heap.size := World.block_lt_of_cell? w _ (hc 0 (by decide))
      have c0 : wr.cell? ⟨bb, bo + k * 13, none⟩ = some (.int .i64 b.name) := (hbel.cell (p := ⟨bb, bo + k * 13, none⟩) hltb).trans (by have := hc 0 (by decide); rw [eC] at this; exact this)
      have c1 : wr.cell? ⟨bb, bo + k * 13 + 1, none⟩ = some (.int .i64 b.who) := (hbel.cell (p := ⟨bb, bo + k * 13 + 1, none⟩) hltb).trans (by have := hc 1 (by decide); rw [eC] at this; exact this)
      have c2 : wr.cell? ⟨bb, bo + k * 13 + 2, none⟩ = some (.string b.own) := (hbel.cell (p := ⟨bb, bo + k * 13 + 2, none⟩) hltb).trans (by have := hc 2 (by decide); rw [eC] at this; exact this)
      have c3 : wr.cell? ⟨bb, bo + k * 13 + 3, none⟩ = some (.slice alg b.lgn clg) := (hbel.cell (p := ⟨bb, bo + k * 13 + 3, none⟩) hltb).trans (by have := hc 3 (by decide); rw [eC] at this; exact this)
      have c4 : wr.cell? ⟨bb, bo + k * 13 + 4, none⟩ = some (.int .i64 b.pe) := (hbel.cell (p := ⟨bb, bo + k * 13 + 4, none⟩) hltb).trans (by have := hc 4 (by decide); rw [eC] at this; exact this)
      have c5 : wr.cell? ⟨bb, bo + k * 13 + 5, none⟩ = some (.int .i64 b.len) := (hbel.cell (p := ⟨bb, bo + k * 13 + 5, none⟩) hltb).trans (by have := hc 5 (by decide); rw [eC] at this; exact this)
      have c6 : wr.cell? ⟨bb, bo + k * 13 + 6, none⟩ = some (.int .i64 b.hei) := (hbel.cell (p := ⟨bb, bo + k * 13 + 6, none⟩) hltb).trans (by have := hc 6 (by decide); rw [eC] at this; exact this)
      have c7 : wr.cell? ⟨bb, bo + k * 13 + 7, none⟩ = some (.int .i64 b.cl) := (hbel.cell (p := ⟨bb, bo + k * 13 + 7, none⟩) hltb).trans (by have := hc 7 (by decide); rw [eC] at this; exact this)
      have c8 : wr.cell? ⟨bb, bo + k * 13 + 8, none⟩ = some (.bool b.all) := (hbel.cell (p := ⟨bb, bo + k * 13 + 8, none⟩) hltb).trans (by have := hc 8 (by decide); rw [eC] at this; exact this)
      have c9 : wr.cell? ⟨bb, bo + k * 13 + 9, none⟩ = some (.int .i64 b.be) := (hbel.cell (p := ⟨bb, bo + k * 13 + 9, none⟩) hltb).trans (by have := hc 9 (by decide); rw [eC] at this; exact this)
      have c10 : wr.cell? ⟨bb, bo + k * 13 + 10, none⟩ = some (.int .i64 b.state) := (hbel.cell (p := ⟨bb, bo + k * 13 + 10, none⟩) hltb).trans (by have := hc 10 (by decide); rw [eC] at this; exact this)
      have c11 : wr.cell? ⟨bb, bo + k * 13 + 11, none⟩ = some (.int .i64 b.unt) := (hbel.cell (p := ⟨bb, bo + k * 13 + 11, none⟩) hltb).trans (by have := hc 11 (by decide); rw [eC] at this; exact this)
      have c12 : wr.cell? ⟨bb, bo + k * 13 + 12, none⟩ = some (.int .i64 b.price) := (hbel.cell (p := ⟨bb, bo + k * 13 + 12, none⟩) hltb).trans (by have := hc 12 (by decide); rw [eC] at this; exact this)
      have HE : Hid (C k = #[.int .i64 b.name, .int .i64 b.who, .string b.own, .slice alg b.lgn clg, .int .i64 b.pe, .int .i64 b.len, .int .i64 b.hei, .int .i64 b.cl, .bool b.all, .int .i64 b.be, .int .i64 b.state, .int .i64 b.unt, .int .i64 b.price].toList) := eC
      clear hc eC hb hlg hClen
      have hbx := push hbel (.cells #[.int .i64 b.name, .int .i64 b.who, .string b.own, .slice alg b.lgn clg, .int .i64 b.pe, .int .i64 b.len, .int .i64 b.hei, .int .i64 b.cl, .bool b.all, .int .i64 b.be, .int .i64 b.state, .int .i64 b.unt, .int .i64 b.price] 72)
      have hbox := heap_alloc_new wr (.cells #[.int .i64 b.name, .int .i64 b.who, .string b.own, .slice alg b.lgn clg, .int .i64 b.pe, .int .i64 b.len, .int .i64 b.hei, .int .i64 b.cl, .bool b.all, .int .i64 b.be, .int .i64 b.state, .int .i64 b.unt, .int .i64 b.price] 72)
      have HO1 : Hid ((wr.alloc (.cells #[.int .i64 b.name, .int .i64 b.who, .string b.own, .slice alg b.lgn clg, .int .i64 b.pe, .int .i64 b.len, .int .i64 b.hei, .int .i64 b.cl, .bool b.all, .int .i64 b.be, .int .i64 b.state, .int .i64 b.unt, .int .i64 b.price] 72)).ownsRow w.heap.size 72 13 u5 (onL P k).length (onRow C P k)) := own_below (push (Below.refl _ wr) _) HO.out
      clear HO
      go_wp2_with fail
      generalize hBx : wr.heap.size = Bx at hbox ⊢
      generalize wr.alloc (.cells #[.int .i64 b.name, .int .i64 b.who, .string b.own, .slice alg b.lgn clg, .int .i64 b.pe, .int .i64 b.len, .int .i64 b.hei, .int .i64 b.cl, .bool b.all, .int .i64 b.be, .int .i64 b.state, .int .i64 b.unt, .int .i64 b.price] 72) = W at hbx hbox HO1 ⊢
      clear hBx c0 c1 c2 c3 c4 c5 c6 c7 c8 c9 c10 c11 c12 hbel
      refine (on1_any b alg clg z pa _ hsl (HLG.out.below hbx) ((hbx.cell hlt).trans HP.out)).mono ?_
      rintro e w2 ⟨⟨t, rfl, ht⟩, hb2⟩
      have hbox2 := blk_below hbox hb2
      have hbel2 := after hbx hb2
      have HT : Hid (t = true ↔ P k) := by show t = true ↔ P k; rw [HPD.out k, ← HB.out]; exact ht
      have HO2 : Hid (w2.ownsRow w.heap.size 72 13 u5 (onL P k).length (onRow C P k)) := own_below hb2 HO1.out
      clear ht hbx hbox hb2 HO1
      cases t with
      | true =>
        have HPK : Hid (P k) := HT.out.1 rfl
        clear HT
        have y0 := blk_cell hbox2 0 _ rfl
        have y1 := blk_cell hbox2 1 _ rfl
        have y2 := blk_cell hbox2 2 _ rfl
        have y3 := blk_cell hbox2 3 _ rfl
        have y4 := blk_cell hbox2 4 _ rfl
        have y5 := blk_cell hbox2 5 _ rfl
        have y6 := blk_cell hbox2 6 _ rfl
        have y7 := blk_cell hbox2 7 _ rfl
        have y8 := blk_cell hbox2 8 _ rfl
        have y9 := blk_cell hbox2 9 _ rfl
        have y10 := blk_cell hbox2 10 _ rfl
        have y11 := blk_cell hbox2 11 _ rfl
        have y12 := blk_cell hbox2 12 _ rfl
        have hnb := heap_alloc_new w2 (.cells #[.int .i64 b.name, .int .i64 b.who, .string b.own, .slice alg b.lgn clg, .int .i64 b.pe, .int .i64 b.len, .int .i64 b.hei, .int .i64 b.cl, .bool b.all, .int .i64 b.be, .int .i64 b.state, .int .i64 b.unt, .int .i64 b.price] 72)
        have HNW : Hid (∀ j u, (C k)[j]? = some u → (w2.alloc (.cells #[.int .i64 b.name, .int .i64 b.who, .string b.own, .slice alg b.lgn clg, .int .i64 b.pe, .int .i64 b.len, .int .i64 b.hei, .int .i64 b.cl, .bool b.all, .int .i64 b.be, .int .i64 b.state, .int .i64 b.unt, .int .i64 b.price] 72)).cell? ((⟨w2.heap.size, 0, none⟩ : Addr).add j) = some u) := by
          rw [HE.out]; exact World.news_of_block hnb
        have hbn := push (Below.refl _ w2) (.cells #[.int .i64 b.name, .int .i64 b.who, .string b.own, .slice alg b.lgn clg, .int .i64 b.pe, .int .i64 b.len, .int .i64 b.hei, .int .i64 b.cl, .bool b.all, .int .i64 b.be, .int .i64 b.state, .int .i64 b.unt, .int .i64 b.price] 72)
        have HO3 : Hid _ := own_below hbn HO2.out
        have hbel3 := after hbel2 hbn
        have hsz := hbel3.size
        have hle := onL_le P k
        have H1 : Hid (∀ u ∈ C k, u.oneCell' = true) := by rw [HE.out]; intro u hu; simp at hu; rcases hu with rfl | rfl | rfl | rfl | rfl | rfl | rfl | rfl | rfl | rfl | rfl | rfl | rfl <;> rfl
        clear hnb hbn
        go_wp2_with (first | (at_builtin; refine wpList_append_any _ (by rfl) (.tmp 17) (.tmp 19) 28 (by rfl) w.heap.size 72 j0 (.agg #[.int .i64 0, .int .i64 0, .string ⟨#[]⟩, .slice none 0 0, .int .i64 0, .int .i64 0, .int .i64 0, .int .i64 0, .bool false, .int .i64 0, .int .i64 0, .int .i64 0, .int .i64 0]) 13 128 Tryz.underlying28 ji jz0 jz1 jz2 rfl (by decide) _ (onL P k).length _ (by rfl) HO3.out (some ⟨w2.heap.size, 0, none⟩) 1 1 (C k) (by rfl) (fun h => (by cases h)) (by rw [HCL.out]) (fun ad e => by cases e; exact HNW.out) H1.out (by unfold maxLen; omega) (by omega) hsz ?_; intro v' w4 ho4 hg4))
        go_roundw
        case rel =>
          refine ⟨k + 1, by omega, by go_num, ?_, hbel3.grown hg4 hsz (fun j hj => (HO2.out.lt j hj).1)⟩
          rw [onRow_yes HPK.out HCL.out, show (onL P (k + 1)).length = (onL P k).length + 1 by rw [onL_yes HPK.out]; simp]
          exact ho4
        case measure => simp [intOf]; omega
      | false =>
        have HPK : Hid (¬ P k) := fun h => by have := HT.out.2 h; cases this
        clear HT
        go_wp2
        go_roundw
        case rel =>
          refine ⟨k + 1, by omega, by go_num, ?_, hbel2⟩
          rw [onRow_no HPK.out, show (onL P (k + 1)).length = (onL P k).length by rw [onL_no HPK.out]]
          exact HO2.out
        case measure => simp [intOf]; omega
    · obtain rfl : k = n := by omega
      obtain ⟨ao', c', e', hc1, _⟩ := own_form HO.out
      have HO' := HO.out
      rw [e'] at HO'
      have HO2 : Hid _ := HO'
      subst e'
      clear HO HO'
      go_wp2
      go_ret
      exact ⟨⟨ao', c', rfl, hc1, HO2.out⟩, hbel⟩
theorem bookingsOn_any (ao : Option Addr) (n c : Nat) (S : Nat → Book) (C : Nat → List Value) (z : Int) (w : World) (hn : n ≤ 1048576) (hs : BooksShort n S 1048576) (hC : RecsAt w ao n 13 C) (hI : ∀ k, k < n → Book.Is w (C k) (S k)) :
    Calls Tryz.prog 65 #[.slice ao n c, .int .i64 z] w fun e w' => OnAns w' w.heap.size n S C z e ∧ Below w.heap.size w w' := by
  have hb0 : Below w.heap.size w (w.alloc (.cells #[.int .i64 z] 3)) := push (Below.refl _ _) _
  have HC : Hid (RecsAt (w.alloc (.cells #[.int .i64 z] 3)) ao n 13 C) := hC.below hb0
  have HI : Hid (∀ k, k < n → Book.Is (w.alloc (.cells #[.int .i64 z] 3)) (C k) (S k)) := fun k hk => (hI k hk).below hb0
  have HP : Hid ((w.alloc (.cells #[.int .i64 z] 3)).cell? ⟨w.heap.size, 0, none⟩ = some (.int .i64 z)) := blk_cell (heap_alloc_new w _) 0 _ rfl
  have hmf : ∀ (fn : Fn) (first cap : Array Value) (w : World), (Instr.makeFunc fn first cap).run Tryz.prog w = .ok (.func fn first cap) w := fun _ _ _ _ => rfl
  have HS : Hid (BooksShort n S 1048576) := hs
  clear hC hI hs
  go_enter Tryz.func65, Tryz.ntmps65
  go_wp2_with (first | (go_at_call 117; refine (thoseBook_any ao n c S C z _ _ hn HS.out HC.out HI.out HP.out).mono ?_; rintro e w2 ⟨⟨ao2, c2, rfl, hc2, ho2⟩, hb2⟩))
  go_ret
  exact ⟨⟨ao2, c2, rfl, hc2, own_base ho2 hb0.size⟩, after hb0 hb2⟩
end Go.Proofs.YtlelckbeoclhbaaGreat

namespace Go.Proofs.YtlelckbeoclhbaaGreat
open Go.RowKit
theorem holdsJust_any (s : Sail) (l : Load) (m : Nat) (B : Nat → Book) (C : Nat → List Value) (ala aca ast aro ase abk : Option Addr) (cla cca cst cro cse cbk : Nat) (w : World) (hm : m ≤ 1048576) (hl : Load.Short l 1048576)
    (hcab : ∀ j, j < l.ron → 0 ≤ (l.ro j).cab ∧ (l.ro j).cab < s.ca.n) (hca : PairsAt w aca s.ca) (hst : StaysAt w ast l.stn l.st) (hro : RoomsAt w aro l.ron l.ro) (hse : SeatsAt w ase l.sen l.se) (hC : RecsAt w abk m 13 C) (hI : ∀ k, k < m → Book.Is w (C k) (B k)) :
    Calls Tryz.prog 64 #[.agg #[.int .i64 s.id, .string s.fr, .string s.dst, .int .i64 s.dep, .int .i64 s.arr, .slice ala s.la.n cla, .slice aca s.ca.n cca, .int .i64 s.most], .agg #[.slice ast l.stn cst, .slice aro l.ron cro, .slice ase l.sen cse], .slice abk m cbk] w fun e w' => SaysIf (Just s l m B) e ∧ Below w.heap.size w w' := by
  have HCA : Hid (PairsAt w aca s.ca) := hca
  have HST : Hid (StaysAt w ast l.stn l.st) := hst
  have HRO : Hid (RoomsAt w aro l.ron l.ro) := hro
  have HSE : Hid (SeatsAt w ase l.sen l.se) := hse
  have HC : Hid (RecsAt w abk m 13 C) := hC
  have HI : Hid (∀ k, k < m → Book.Is w (C k) (B k)) := hI
  have HCB : Hid (∀ j, j < l.ron → 0 ≤ (l.ro j).cab ∧ (l.ro j).cab < s.ca.n) := hcab
  have HLS : Hid (Load.Short l 1048576) := hl
  clear hca hst hro hse hC hI hcab hl
  have hb0 : Below w.heap.size w ((w.alloc (.cells #[.int .i64 s.id, .string s.fr, .string s.dst, .int .i64 s.dep, .int .i64 s.arr, .slice ala s.la.n cla, .slice aca s.ca.n cca, .int .i64 s.most] 54)).alloc (.cells #[.slice ast l.stn cst, .slice aro l.ron cro, .slice ase l.sen cse] 62)) := push (push (Below.refl _ _) _) _
  have bS : ((w.alloc (.cells #[.int .i64 s.id, .string s.fr, .string s.dst, .int .i64 s.dep, .int .i64 s.arr, .slice ala s.la.n cla, .slice aca s.ca.n cca, .int .i64 s.most] 54)).alloc (.cells #[.slice ast l.stn cst, .slice aro l.ron cro, .slice ase l.sen cse] 62)).heap[w.heap.size]? = some (.cells #[.int .i64 s.id, .string s.fr, .string s.dst, .int .i64 s.dep, .int .i64 s.arr, .slice ala s.la.n cla, .slice aca s.ca.n cca, .int .i64 s.most] 54 (0, 0)) := blk_alloc (heap_alloc_new w _) _
  have bL : ((w.alloc (.cells #[.int .i64 s.id, .string s.fr, .string s.dst, .int .i64 s.dep, .int .i64 s.arr, .slice ala s.la.n cla, .slice aca s.ca.n cca, .int .i64 s.most] 54)).alloc (.cells #[.slice ast l.stn cst, .slice aro l.ron cro, .slice ase l.sen cse] 62)).heap[w.heap.size + 1]? = some (.cells #[.slice ast l.stn cst, .slice aro l.ron cro, .slice ase l.sen cse] 62 (0, 0)) := by simpa using heap_alloc_new (w.alloc _) _
  go_enter Tryz.func64, Tryz.ntmps64
  go_wp2
  generalize (w.alloc (.cells #[.int .i64 s.id, .string s.fr, .string s.dst, .int .i64 s.dep, .int .i64 s.arr, .slice ala s.la.n cla, .slice aca s.ca.n cca, .int .i64 s.most] 54)).alloc (.cells #[.slice ast l.stn cst, .slice aro l.ron cro, .slice ase l.sen cse] 62) = V at hb0 bS bL ⊢
  have HBS : Hid (V.heap[w.heap.size]? = some (.cells #[.int .i64 s.id, .string s.fr, .string s.dst, .int .i64 s.dep, .int .i64 s.arr, .slice ala s.la.n cla, .slice aca s.ca.n cca, .int .i64 s.most] 54 (0, 0))) := bS
  have HBL : Hid (V.heap[w.heap.size + 1]? = some (.cells #[.slice ast l.stn cst, .slice aro l.ron cro, .slice ase l.sen cse] 62 (0, 0))) := bL
  clear bS bL
  go_loopw [7, 8, 10, 13] (fun n1 n2 _ i wr => ∃ k : Nat, k ≤ m ∧ i = .int .i64 k ∧ n1 = .int .i64 (cnt (fun j => ¬ NoCar (B j)) k : Nat) ∧ n2 = .int .i64 (cnt (fun j => ¬ NoCab (B j)) k : Nat) ∧ (∀ j, j < k → Holds s l (B j)) ∧ Below V.heap.size V wr) (fun _ _ _ i _ => m - (intOf i).toNat)
  case atStart => exact ⟨0, Nat.zero_le _, rfl, rfl, rfl, fun j hj => by omega, Below.refl _ _⟩
  case round =>
    obtain ⟨k, hk, rfl, rfl, rfl, hall, hbel⟩ := hrel
    have HA : Hid (∀ j, j < k → Holds s l (B j)) := hall
    clear hall
    obtain ⟨m1, hm1⟩ : ∃ x, x = cnt (fun j => ¬ NoCar (B j)) k := ⟨_, rfl⟩
    obtain ⟨m2, hm2⟩ : ∃ x, x = cnt (fun j => ¬ NoCab (B j)) k := ⟨_, rfl⟩
    have l1 : m1 ≤ k := by rw [hm1]; exact cnt_le _ _
    have l2 : m2 ≤ k := by rw [hm2]; exact cnt_le _ _
    rw [← hm1, ← hm2]
    have HM1 : Hid (m1 = cnt (fun j => ¬ NoCar (B j)) k) := hm1
    have HM2 : Hid (m2 = cnt (fun j => ¬ NoCab (B j)) k) := hm2
    clear hm1 hm2
    by_cases hlt2 : k < m
    · have hbw := after hb0 hbel
      obtain ⟨bb, bo, rfl, hc⟩ := HC.out k hlt2
      obtain ⟨alg, clg, eC, _, _⟩ := HI.out k hlt2
      obtain ⟨b, hb⟩ : ∃ b, b = B k := ⟨_, rfl⟩
      rw [← hb] at eC
      have HB : Hid (b = B k) := hb
      have hltb : bb < w.heap.size := World.block_lt_of_cell? w _ (hc 0 (by decide))
      have c0 : wr.cell? ⟨bb, bo + k * 13, none⟩ = some (.int .i64 b.name) := (hbw.cell (p := ⟨bb, bo + k * 13, none⟩) hltb).trans (by have := hc 0 (by decide); rw [eC] at this; exact this)
      have c1 : wr.cell? ⟨bb, bo + k * 13 + 1, none⟩ = some (.int .i64 b.who) := (hbw.cell (p := ⟨bb, bo + k * 13 + 1, none⟩) hltb).trans (by have := hc 1 (by decide); rw [eC] at this; exact this)
      have c2 : wr.cell? ⟨bb, bo + k * 13 + 2, none⟩ = some (.string b.own) := (hbw.cell (p := ⟨bb, bo + k * 13 + 2, none⟩) hltb).trans (by have := hc 2 (by decide); rw [eC] at this; exact this)
      have c3 : wr.cell? ⟨bb, bo + k * 13 + 3, none⟩ = some (.slice alg b.lgn clg) := (hbw.cell (p := ⟨bb, bo + k * 13 + 3, none⟩) hltb).trans (by have := hc 3 (by decide); rw [eC] at this; exact this)
      have c4 : wr.cell? ⟨bb, bo + k * 13 + 4, none⟩ = some (.int .i64 b.pe) := (hbw.cell (p := ⟨bb, bo + k * 13 + 4, none⟩) hltb).trans (by have := hc 4 (by decide); rw [eC] at this; exact this)
      have c5 : wr.cell? ⟨bb, bo + k * 13 + 5, none⟩ = some (.int .i64 b.len) := (hbw.cell (p := ⟨bb, bo + k * 13 + 5, none⟩) hltb).trans (by have := hc 5 (by decide); rw [eC] at this; exact this)
      have c6 : wr.cell? ⟨bb, bo + k * 13 + 6, none⟩ = some (.int .i64 b.hei) := (hbw.cell (p := ⟨bb, bo + k * 13 + 6, none⟩) hltb).trans (by have := hc 6 (by decide); rw [eC] at this; exact this)
      have c7 : wr.cell? ⟨bb, bo + k * 13 + 7, none⟩ = some (.int .i64 b.cl) := (hbw.cell (p := ⟨bb, bo + k * 13 + 7, none⟩) hltb).trans (by have := hc 7 (by decide); rw [eC] at this; exact this)
      have c8 : wr.cell? ⟨bb, bo + k * 13 + 8, none⟩ = some (.bool b.all) := (hbw.cell (p := ⟨bb, bo + k * 13 + 8, none⟩) hltb).trans (by have := hc 8 (by decide); rw [eC] at this; exact this)
      have c9 : wr.cell? ⟨bb, bo + k * 13 + 9, none⟩ = some (.int .i64 b.be) := (hbw.cell (p := ⟨bb, bo + k * 13 + 9, none⟩) hltb).trans (by have := hc 9 (by decide); rw [eC] at this; exact this)
      have c10 : wr.cell? ⟨bb, bo + k * 13 + 10, none⟩ = some (.int .i64 b.state) := (hbw.cell (p := ⟨bb, bo + k * 13 + 10, none⟩) hltb).trans (by have := hc 10 (by decide); rw [eC] at this; exact this)
      have c11 : wr.cell? ⟨bb, bo + k * 13 + 11, none⟩ = some (.int .i64 b.unt) := (hbw.cell (p := ⟨bb, bo + k * 13 + 11, none⟩) hltb).trans (by have := hc 11 (by decide); rw [eC] at this; exact this)
      have c12 : wr.cell? ⟨bb, bo + k * 13 + 12, none⟩ = some (.int .i64 b.price) := (hbw.cell (p := ⟨bb, bo + k * 13 + 12, none⟩) hltb).trans (by have := hc 12 (by decide); rw [eC] at this; exact this)
      clear hc eC hb
      have hbx := push hbel (.cells #[.int .i64 b.name, .int .i64 b.who, .string b.own, .slice alg b.lgn clg, .int .i64 b.pe, .int .i64 b.len, .int .i64 b.hei, .int .i64 b.cl, .bool b.all, .int .i64 b.be, .int .i64 b.state, .int .i64 b.unt, .int .i64 b.price] 72)
      have hbox := heap_alloc_new wr (.cells #[.int .i64 b.name, .int .i64 b.who, .string b.own, .slice alg b.lgn clg, .int .i64 b.pe, .int .i64 b.len, .int .i64 b.hei, .int .i64 b.cl, .bool b.all, .int .i64 b.be, .int .i64 b.state, .int .i64 b.unt, .int .i64 b.price] 72)
      go_wp2_with fail
      generalize hBx : wr.heap.size = Bx at hbox ⊢
      generalize wr.alloc (.cells #[.int .i64 b.name, .int .i64 b.who, .string b.own, .slice alg b.lgn clg, .int .i64 b.pe, .int .i64 b.len, .int .i64 b.hei, .int .i64 b.cl, .bool b.all, .int .i64 b.be, .int .i64 b.state, .int .i64 b.unt, .int .i64 b.price] 72) = W at hbx hbox ⊢
      clear hBx c0 c1 c2 c3 c4 c5 c6 c7 c8 c9 c10 c11 c12 hbel hbw
      obtain ⟨t1, ht1⟩ : ∃ c, c = decide (¬ (b.len = 0 ∧ b.hei = 0)) := ⟨_, rfl⟩
      have H1 : Hid (t1 = true ↔ ¬ NoCar b) := by show t1 = true ↔ ¬ NoCar b; rw [ht1, decide_eq_true_eq]; exact Iff.rfl
      refine (asksCar_any b.pe b.len b.hei b.cl b.all b.be _).mono ?_
      rw [← ht1]
      clear ht1
      rintro e W1 ⟨rfl, hbv⟩
      have hbx1 := after hbx hbv
      have hbox1 := blk_below hbox hbv
      clear hbx hbox hbv W
      obtain ⟨t2, ht2⟩ : ∃ c, c = decide (¬ (b.cl = 0 ∧ b.all = false ∧ b.be = 0)) := ⟨_, rfl⟩
      have H2 : Hid (t2 = true ↔ ¬ NoCab b) := by show t2 = true ↔ ¬ NoCab b; rw [ht2, decide_eq_true_eq]; exact Iff.rfl
      have HT2 : Hid (t2 = decide (¬ (b.cl = 0 ∧ b.all = false ∧ b.be = 0))) := ht2
      clear ht2
      have hw1 : IntKind.i64.wrap ((m1 : Int) + 1) = (m1 : Int) + 1 := by rw [IntKind.wrap_i64]; omega
      have hw2 : IntKind.i64.wrap ((m2 : Int) + 1) = (m2 : Int) + 1 := by rw [IntKind.wrap_i64]; omega
      have HLE : Hid (k < m) := hlt2
      cases t1 with
      | true =>
        have HQ1 : Hid (¬ NoCar b) := H1.out.1 rfl
        clear H1
        have y4 := blk_cell hbox1 4 _ rfl
        have y5 := blk_cell hbox1 5 _ rfl
        have y6 := blk_cell hbox1 6 _ rfl
        have y7 := blk_cell hbox1 7 _ rfl
        have y8 := blk_cell hbox1 8 _ rfl
        have y9 := blk_cell hbox1 9 _ rfl
        go_wp2_with fail
        refine (asksCabin_any b.pe b.len b.hei b.cl b.all b.be _).mono ?_
        rw [← HT2.out]
        rintro e W2 ⟨rfl, hbv⟩
        have hbx2 := after hbx1 hbv
        have hbox2 := blk_below hbox1 hbv
        clear y4 y5 y6 y7 y8 y9 hbx1 hbox1 hbv W1 HT2
        cases t2 with
        | true =>
          have HQ2 : Hid (¬ NoCab b) := H2.out.1 rfl
          clear H2
          have y0 := blk_cell hbox2 0 _ rfl
          have y1 := blk_cell hbox2 1 _ rfl
          have y2 := blk_cell hbox2 2 _ rfl
          have y3 := blk_cell hbox2 3 _ rfl
          have y4 := blk_cell hbox2 4 _ rfl
          have y5 := blk_cell hbox2 5 _ rfl
          have y6 := blk_cell hbox2 6 _ rfl
          have y7 := blk_cell hbox2 7 _ rfl
          have y8 := blk_cell hbox2 8 _ rfl
          have y9 := blk_cell hbox2 9 _ rfl
          have y10 := blk_cell hbox2 10 _ rfl
          have y11 := blk_cell hbox2 11 _ rfl
          have y12 := blk_cell hbox2 12 _ rfl
          have s6 := blk_cell (blk_below HBS.out hbx2) 6 _ rfl
          have l0' := blk_cell (blk_below HBL.out hbx2) 0 _ rfl
          have l1' := blk_cell (blk_below HBL.out hbx2) 1 _ rfl
          have l2' := blk_cell (blk_below HBL.out hbx2) 2 _ rfl
          go_wp2_with fail
          refine (holdsCar_any b alg clg l ast cst _ HLS.out.1 (HST.out.below (after hb0 hbx2))).mono ?_
          rintro e W3 ⟨⟨u0, rfl, hu0⟩, hbv⟩
          have HU0 : Hid (u0 = true ↔ HoldC l b) := hu0
          have hbx3 := after hbx2 hbv
          have hbox3 := blk_below hbox2 hbv
          clear y0 y1 y2 y3 y4 y5 y6 y7 y8 y9 y10 y11 y12 s6 l0' l1' l2' hbx2 hbox2 hbv hu0 W2
          cases u0 with
          | false =>
            have HN : Hid (¬ Just s l m B) := fun h => by have h1 := (h.1 k HLE.out).1; rw [← HB.out] at h1; have := HU0.out.2 h1; cases this
            go_wp2
            go_ret
            exact ⟨says_no HN.out, after hb0 hbx3⟩
          | true =>
          have HP0 : Hid (HoldC l b) := HU0.out.1 rfl
          clear HU0
          have y0 := blk_cell hbox3 0 _ rfl
          have y1 := blk_cell hbox3 1 _ rfl
          have y2 := blk_cell hbox3 2 _ rfl
          have y3 := blk_cell hbox3 3 _ rfl
          have y4 := blk_cell hbox3 4 _ rfl
          have y5 := blk_cell hbox3 5 _ rfl
          have y6 := blk_cell hbox3 6 _ rfl
          have y7 := blk_cell hbox3 7 _ rfl
          have y8 := blk_cell hbox3 8 _ rfl
          have y9 := blk_cell hbox3 9 _ rfl
          have y10 := blk_cell hbox3 10 _ rfl
          have y11 := blk_cell hbox3 11 _ rfl
          have y12 := blk_cell hbox3 12 _ rfl
          have s6 := blk_cell (blk_below HBS.out hbx3) 6 _ rfl
          have l0' := blk_cell (blk_below HBL.out hbx3) 0 _ rfl
          have l1' := blk_cell (blk_below HBL.out hbx3) 1 _ rfl
          have l2' := blk_cell (blk_below HBL.out hbx3) 2 _ rfl
          go_wp2_with fail
          refine (holdsCabin_any b alg clg s l aca aro cca cro _ HLS.out.2.1 HCB.out (HCA.out.below (after hb0 hbx3)) (HRO.out.below (after hb0 hbx3))).mono ?_
          rintro e W4 ⟨⟨u1, rfl, hu1⟩, hbv⟩
          have HU1 : Hid (u1 = true ↔ HoldR s l b) := hu1
          have hbx4 := after hbx3 hbv
          have hbox4 := blk_below hbox3 hbv
          clear y0 y1 y2 y3 y4 y5 y6 y7 y8 y9 y10 y11 y12 s6 l0' l1' l2' hbx3 hbox3 hbv hu1 W3
          cases u1 with
          | false =>
            have HN : Hid (¬ Just s l m B) := fun h => by have h1 := (h.1 k HLE.out).2.1; rw [← HB.out] at h1; have := HU1.out.2 h1; cases this
            go_wp2
            go_ret
            exact ⟨says_no HN.out, after hb0 hbx4⟩
          | true =>
          have HP1 : Hid (HoldR s l b) := HU1.out.1 rfl
          clear HU1
          have y0 := blk_cell hbox4 0 _ rfl
          have y1 := blk_cell hbox4 1 _ rfl
          have y2 := blk_cell hbox4 2 _ rfl
          have y3 := blk_cell hbox4 3 _ rfl
          have y4 := blk_cell hbox4 4 _ rfl
          have y5 := blk_cell hbox4 5 _ rfl
          have y6 := blk_cell hbox4 6 _ rfl
          have y7 := blk_cell hbox4 7 _ rfl
          have y8 := blk_cell hbox4 8 _ rfl
          have y9 := blk_cell hbox4 9 _ rfl
          have y10 := blk_cell hbox4 10 _ rfl
          have y11 := blk_cell hbox4 11 _ rfl
          have y12 := blk_cell hbox4 12 _ rfl
          have s6 := blk_cell (blk_below HBS.out hbx4) 6 _ rfl
          have l0' := blk_cell (blk_below HBL.out hbx4) 0 _ rfl
          have l1' := blk_cell (blk_below HBL.out hbx4) 1 _ rfl
          have l2' := blk_cell (blk_below HBL.out hbx4) 2 _ rfl
          go_wp2_with fail
          refine (holdsSeats_any b alg clg l ase cse _ HLS.out.2.2 (HSE.out.below (after hb0 hbx4))).mono ?_
          rintro e W5 ⟨⟨u2, rfl, hu2⟩, hbv⟩
          have HU2 : Hid (u2 = true ↔ HoldT l b) := hu2
          have hbx5 := after hbx4 hbv
          have hbox5 := blk_below hbox4 hbv
          clear y0 y1 y2 y3 y4 y5 y6 y7 y8 y9 y10 y11 y12 s6 l0' l1' l2' hbx4 hbox4 hbv hu2 W4
          cases u2 with
          | false =>
            have HN : Hid (¬ Just s l m B) := fun h => by have h1 := (h.1 k HLE.out).2.2; rw [← HB.out] at h1; have := HU2.out.2 h1; cases this
            go_wp2
            go_ret
            exact ⟨says_no HN.out, after hb0 hbx5⟩
          | true =>
          have HP2 : Hid (HoldT l b) := HU2.out.1 rfl
          clear HU2
          go_wp2
          go_roundw
          case rel => exact ⟨k + 1, by omega, by go_num, by rw [cnt_yes (P := fun j => ¬ NoCar (B j)) (by rw [← HB.out]; exact HQ1.out), ← HM1.out]; simp, by rw [cnt_yes (P := fun j => ¬ NoCab (B j)) (by rw [← HB.out]; exact HQ2.out), ← HM2.out]; simp, fun j hj => by
            by_cases e : j = k
            · subst e; rw [← HB.out]; exact ⟨HP0.out, HP1.out, HP2.out⟩
            · exact HA.out j (by omega), hbx5⟩
          case measure => simp [intOf]; omega
        | false =>
          have HQ2 : Hid (¬ ¬ NoCab b) := fun h => by have := H2.out.2 h; cases this
          clear H2
          have y0 := blk_cell hbox2 0 _ rfl
          have y1 := blk_cell hbox2 1 _ rfl
          have y2 := blk_cell hbox2 2 _ rfl
          have y3 := blk_cell hbox2 3 _ rfl
          have y4 := blk_cell hbox2 4 _ rfl
          have y5 := blk_cell hbox2 5 _ rfl
          have y6 := blk_cell hbox2 6 _ rfl
          have y7 := blk_cell hbox2 7 _ rfl
          have y8 := blk_cell hbox2 8 _ rfl
          have y9 := blk_cell hbox2 9 _ rfl
          have y10 := blk_cell hbox2 10 _ rfl
          have y11 := blk_cell hbox2 11 _ rfl
          have y12 := blk_cell hbox2 12 _ rfl
          have s6 := blk_cell (blk_below HBS.out hbx2) 6 _ rfl
          have l0' := blk_cell (blk_below HBL.out hbx2) 0 _ rfl
          have l1' := blk_cell (blk_below HBL.out hbx2) 1 _ rfl
          have l2' := blk_cell (blk_below HBL.out hbx2) 2 _ rfl
          go_wp2_with fail
          refine (holdsCar_any b alg clg l ast cst _ HLS.out.1 (HST.out.below (after hb0 hbx2))).mono ?_
          rintro e W3 ⟨⟨u0, rfl, hu0⟩, hbv⟩
          have HU0 : Hid (u0 = true ↔ HoldC l b) := hu0
          have hbx3 := after hbx2 hbv
          have hbox3 := blk_below hbox2 hbv
          clear y0 y1 y2 y3 y4 y5 y6 y7 y8 y9 y10 y11 y12 s6 l0' l1' l2' hbx2 hbox2 hbv hu0 W2
          cases u0 with
          | false =>
            have HN : Hid (¬ Just s l m B) := fun h => by have h1 := (h.1 k HLE.out).1; rw [← HB.out] at h1; have := HU0.out.2 h1; cases this
            go_wp2
            go_ret
            exact ⟨says_no HN.out, after hb0 hbx3⟩
          | true =>
          have HP0 : Hid (HoldC l b) := HU0.out.1 rfl
          clear HU0
          have y0 := blk_cell hbox3 0 _ rfl
          have y1 := blk_cell hbox3 1 _ rfl
          have y2 := blk_cell hbox3 2 _ rfl
          have y3 := blk_cell hbox3 3 _ rfl
          have y4 := blk_cell hbox3 4 _ rfl
          have y5 := blk_cell hbox3 5 _ rfl
          have y6 := blk_cell hbox3 6 _ rfl
          have y7 := blk_cell hbox3 7 _ rfl
          have y8 := blk_cell hbox3 8 _ rfl
          have y9 := blk_cell hbox3 9 _ rfl
          have y10 := blk_cell hbox3 10 _ rfl
          have y11 := blk_cell hbox3 11 _ rfl
          have y12 := blk_cell hbox3 12 _ rfl
          have s6 := blk_cell (blk_below HBS.out hbx3) 6 _ rfl
          have l0' := blk_cell (blk_below HBL.out hbx3) 0 _ rfl
          have l1' := blk_cell (blk_below HBL.out hbx3) 1 _ rfl
          have l2' := blk_cell (blk_below HBL.out hbx3) 2 _ rfl
          go_wp2_with fail
          refine (holdsCabin_any b alg clg s l aca aro cca cro _ HLS.out.2.1 HCB.out (HCA.out.below (after hb0 hbx3)) (HRO.out.below (after hb0 hbx3))).mono ?_
          rintro e W4 ⟨⟨u1, rfl, hu1⟩, hbv⟩
          have HU1 : Hid (u1 = true ↔ HoldR s l b) := hu1
          have hbx4 := after hbx3 hbv
          have hbox4 := blk_below hbox3 hbv
          clear y0 y1 y2 y3 y4 y5 y6 y7 y8 y9 y10 y11 y12 s6 l0' l1' l2' hbx3 hbox3 hbv hu1 W3
          cases u1 with
          | false =>
            have HN : Hid (¬ Just s l m B) := fun h => by have h1 := (h.1 k HLE.out).2.1; rw [← HB.out] at h1; have := HU1.out.2 h1; cases this
            go_wp2
            go_ret
            exact ⟨says_no HN.out, after hb0 hbx4⟩
          | true =>
          have HP1 : Hid (HoldR s l b) := HU1.out.1 rfl
          clear HU1
          have y0 := blk_cell hbox4 0 _ rfl
          have y1 := blk_cell hbox4 1 _ rfl
          have y2 := blk_cell hbox4 2 _ rfl
          have y3 := blk_cell hbox4 3 _ rfl
          have y4 := blk_cell hbox4 4 _ rfl
          have y5 := blk_cell hbox4 5 _ rfl
          have y6 := blk_cell hbox4 6 _ rfl
          have y7 := blk_cell hbox4 7 _ rfl
          have y8 := blk_cell hbox4 8 _ rfl
          have y9 := blk_cell hbox4 9 _ rfl
          have y10 := blk_cell hbox4 10 _ rfl
          have y11 := blk_cell hbox4 11 _ rfl
          have y12 := blk_cell hbox4 12 _ rfl
          have s6 := blk_cell (blk_below HBS.out hbx4) 6 _ rfl
          have l0' := blk_cell (blk_below HBL.out hbx4) 0 _ rfl
          have l1' := blk_cell (blk_below HBL.out hbx4) 1 _ rfl
          have l2' := blk_cell (blk_below HBL.out hbx4) 2 _ rfl
          go_wp2_with fail
          refine (holdsSeats_any b alg clg l ase cse _ HLS.out.2.2 (HSE.out.below (after hb0 hbx4))).mono ?_
          rintro e W5 ⟨⟨u2, rfl, hu2⟩, hbv⟩
          have HU2 : Hid (u2 = true ↔ HoldT l b) := hu2
          have hbx5 := after hbx4 hbv
          have hbox5 := blk_below hbox4 hbv
          clear y0 y1 y2 y3 y4 y5 y6 y7 y8 y9 y10 y11 y12 s6 l0' l1' l2' hbx4 hbox4 hbv hu2 W4
          cases u2 with
          | false =>
            have HN : Hid (¬ Just s l m B) := fun h => by have h1 := (h.1 k HLE.out).2.2; rw [← HB.out] at h1; have := HU2.out.2 h1; cases this
            go_wp2
            go_ret
            exact ⟨says_no HN.out, after hb0 hbx5⟩
          | true =>
          have HP2 : Hid (HoldT l b) := HU2.out.1 rfl
          clear HU2
          go_wp2
          go_roundw
          case rel => exact ⟨k + 1, by omega, by go_num, by rw [cnt_yes (P := fun j => ¬ NoCar (B j)) (by rw [← HB.out]; exact HQ1.out), ← HM1.out]; simp, by rw [cnt_no (P := fun j => ¬ NoCab (B j)) (by rw [← HB.out]; exact HQ2.out), ← HM2.out], fun j hj => by
            by_cases e : j = k
            · subst e; rw [← HB.out]; exact ⟨HP0.out, HP1.out, HP2.out⟩
            · exact HA.out j (by omega), hbx5⟩
          case measure => simp [intOf]; omega
      | false =>
        have HQ1 : Hid (¬ ¬ NoCar b) := fun h => by have := H1.out.2 h; cases this
        clear H1
        have y4 := blk_cell hbox1 4 _ rfl
        have y5 := blk_cell hbox1 5 _ rfl
        have y6 := blk_cell hbox1 6 _ rfl
        have y7 := blk_cell hbox1 7 _ rfl
        have y8 := blk_cell hbox1 8 _ rfl
        have y9 := blk_cell hbox1 9 _ rfl
        go_wp2_with fail
        refine (asksCabin_any b.pe b.len b.hei b.cl b.all b.be _).mono ?_
        rw [← HT2.out]
        rintro e W2 ⟨rfl, hbv⟩
        have hbx2 := after hbx1 hbv
        have hbox2 := blk_below hbox1 hbv
        clear y4 y5 y6 y7 y8 y9 hbx1 hbox1 hbv W1 HT2
        cases t2 with
        | true =>
          have HQ2 : Hid (¬ NoCab b) := H2.out.1 rfl
          clear H2
          have y0 := blk_cell hbox2 0 _ rfl
          have y1 := blk_cell hbox2 1 _ rfl
          have y2 := blk_cell hbox2 2 _ rfl
          have y3 := blk_cell hbox2 3 _ rfl
          have y4 := blk_cell hbox2 4 _ rfl
          have y5 := blk_cell hbox2 5 _ rfl
          have y6 := blk_cell hbox2 6 _ rfl
          have y7 := blk_cell hbox2 7 _ rfl
          have y8 := blk_cell hbox2 8 _ rfl
          have y9 := blk_cell hbox2 9 _ rfl
          have y10 := blk_cell hbox2 10 _ rfl
          have y11 := blk_cell hbox2 11 _ rfl
          have y12 := blk_cell hbox2 12 _ rfl
          have s6 := blk_cell (blk_below HBS.out hbx2) 6 _ rfl
          have l0' := blk_cell (blk_below HBL.out hbx2) 0 _ rfl
          have l1' := blk_cell (blk_below HBL.out hbx2) 1 _ rfl
          have l2' := blk_cell (blk_below HBL.out hbx2) 2 _ rfl
          go_wp2_with fail
          refine (holdsCar_any b alg clg l ast cst _ HLS.out.1 (HST.out.below (after hb0 hbx2))).mono ?_
          rintro e W3 ⟨⟨u0, rfl, hu0⟩, hbv⟩
          have HU0 : Hid (u0 = true ↔ HoldC l b) := hu0
          have hbx3 := after hbx2 hbv
          have hbox3 := blk_below hbox2 hbv
          clear y0 y1 y2 y3 y4 y5 y6 y7 y8 y9 y10 y11 y12 s6 l0' l1' l2' hbx2 hbox2 hbv hu0 W2
          cases u0 with
          | false =>
            have HN : Hid (¬ Just s l m B) := fun h => by have h1 := (h.1 k HLE.out).1; rw [← HB.out] at h1; have := HU0.out.2 h1; cases this
            go_wp2
            go_ret
            exact ⟨says_no HN.out, after hb0 hbx3⟩
          | true =>
          have HP0 : Hid (HoldC l b) := HU0.out.1 rfl
          clear HU0
          have y0 := blk_cell hbox3 0 _ rfl
          have y1 := blk_cell hbox3 1 _ rfl
          have y2 := blk_cell hbox3 2 _ rfl
          have y3 := blk_cell hbox3 3 _ rfl
          have y4 := blk_cell hbox3 4 _ rfl
          have y5 := blk_cell hbox3 5 _ rfl
          have y6 := blk_cell hbox3 6 _ rfl
          have y7 := blk_cell hbox3 7 _ rfl
          have y8 := blk_cell hbox3 8 _ rfl
          have y9 := blk_cell hbox3 9 _ rfl
          have y10 := blk_cell hbox3 10 _ rfl
          have y11 := blk_cell hbox3 11 _ rfl
          have y12 := blk_cell hbox3 12 _ rfl
          have s6 := blk_cell (blk_below HBS.out hbx3) 6 _ rfl
          have l0' := blk_cell (blk_below HBL.out hbx3) 0 _ rfl
          have l1' := blk_cell (blk_below HBL.out hbx3) 1 _ rfl
          have l2' := blk_cell (blk_below HBL.out hbx3) 2 _ rfl
          go_wp2_with fail
          refine (holdsCabin_any b alg clg s l aca aro cca cro _ HLS.out.2.1 HCB.out (HCA.out.below (after hb0 hbx3)) (HRO.out.below (after hb0 hbx3))).mono ?_
          rintro e W4 ⟨⟨u1, rfl, hu1⟩, hbv⟩
          have HU1 : Hid (u1 = true ↔ HoldR s l b) := hu1
          have hbx4 := after hbx3 hbv
          have hbox4 := blk_below hbox3 hbv
          clear y0 y1 y2 y3 y4 y5 y6 y7 y8 y9 y10 y11 y12 s6 l0' l1' l2' hbx3 hbox3 hbv hu1 W3
          cases u1 with
          | false =>
            have HN : Hid (¬ Just s l m B) := fun h => by have h1 := (h.1 k HLE.out).2.1; rw [← HB.out] at h1; have := HU1.out.2 h1; cases this
            go_wp2
            go_ret
            exact ⟨says_no HN.out, after hb0 hbx4⟩
          | true =>
          have HP1 : Hid (HoldR s l b) := HU1.out.1 rfl
          clear HU1
          have y0 := blk_cell hbox4 0 _ rfl
          have y1 := blk_cell hbox4 1 _ rfl
          have y2 := blk_cell hbox4 2 _ rfl
          have y3 := blk_cell hbox4 3 _ rfl
          have y4 := blk_cell hbox4 4 _ rfl
          have y5 := blk_cell hbox4 5 _ rfl
          have y6 := blk_cell hbox4 6 _ rfl
          have y7 := blk_cell hbox4 7 _ rfl
          have y8 := blk_cell hbox4 8 _ rfl
          have y9 := blk_cell hbox4 9 _ rfl
          have y10 := blk_cell hbox4 10 _ rfl
          have y11 := blk_cell hbox4 11 _ rfl
          have y12 := blk_cell hbox4 12 _ rfl
          have s6 := blk_cell (blk_below HBS.out hbx4) 6 _ rfl
          have l0' := blk_cell (blk_below HBL.out hbx4) 0 _ rfl
          have l1' := blk_cell (blk_below HBL.out hbx4) 1 _ rfl
          have l2' := blk_cell (blk_below HBL.out hbx4) 2 _ rfl
          go_wp2_with fail
          refine (holdsSeats_any b alg clg l ase cse _ HLS.out.2.2 (HSE.out.below (after hb0 hbx4))).mono ?_
          rintro e W5 ⟨⟨u2, rfl, hu2⟩, hbv⟩
          have HU2 : Hid (u2 = true ↔ HoldT l b) := hu2
          have hbx5 := after hbx4 hbv
          have hbox5 := blk_below hbox4 hbv
          clear y0 y1 y2 y3 y4 y5 y6 y7 y8 y9 y10 y11 y12 s6 l0' l1' l2' hbx4 hbox4 hbv hu2 W4
          cases u2 with
          | false =>
            have HN : Hid (¬ Just s l m B) := fun h => by have h1 := (h.1 k HLE.out).2.2; rw [← HB.out] at h1; have := HU2.out.2 h1; cases this
            go_wp2
            go_ret
            exact ⟨says_no HN.out, after hb0 hbx5⟩
          | true =>
          have HP2 : Hid (HoldT l b) := HU2.out.1 rfl
          clear HU2
          go_wp2
          go_roundw
          case rel => exact ⟨k + 1, by omega, by go_num, by rw [cnt_no (P := fun j => ¬ NoCar (B j)) (by rw [← HB.out]; exact HQ1.out), ← HM1.out], by rw [cnt_yes (P := fun j => ¬ NoCab (B j)) (by rw [← HB.out]; exact HQ2.out), ← HM2.out]; simp, fun j hj => by
            by_cases e : j = k
            · subst e; rw [← HB.out]; exact ⟨HP0.out, HP1.out, HP2.out⟩
            · exact HA.out j (by omega), hbx5⟩
          case measure => simp [intOf]; omega
        | false =>
          have HQ2 : Hid (¬ ¬ NoCab b) := fun h => by have := H2.out.2 h; cases this
          clear H2
          have y0 := blk_cell hbox2 0 _ rfl
          have y1 := blk_cell hbox2 1 _ rfl
          have y2 := blk_cell hbox2 2 _ rfl
          have y3 := blk_cell hbox2 3 _ rfl
          have y4 := blk_cell hbox2 4 _ rfl
          have y5 := blk_cell hbox2 5 _ rfl
          have y6 := blk_cell hbox2 6 _ rfl
          have y7 := blk_cell hbox2 7 _ rfl
          have y8 := blk_cell hbox2 8 _ rfl
          have y9 := blk_cell hbox2 9 _ rfl
          have y10 := blk_cell hbox2 10 _ rfl
          have y11 := blk_cell hbox2 11 _ rfl
          have y12 := blk_cell hbox2 12 _ rfl
          have s6 := blk_cell (blk_below HBS.out hbx2) 6 _ rfl
          have l0' := blk_cell (blk_below HBL.out hbx2) 0 _ rfl
          have l1' := blk_cell (blk_below HBL.out hbx2) 1 _ rfl
          have l2' := blk_cell (blk_below HBL.out hbx2) 2 _ rfl
          go_wp2_with fail
          refine (holdsCar_any b alg clg l ast cst _ HLS.out.1 (HST.out.below (after hb0 hbx2))).mono ?_
          rintro e W3 ⟨⟨u0, rfl, hu0⟩, hbv⟩
          have HU0 : Hid (u0 = true ↔ HoldC l b) := hu0
          have hbx3 := after hbx2 hbv
          have hbox3 := blk_below hbox2 hbv
          clear y0 y1 y2 y3 y4 y5 y6 y7 y8 y9 y10 y11 y12 s6 l0' l1' l2' hbx2 hbox2 hbv hu0 W2
          cases u0 with
          | false =>
            have HN : Hid (¬ Just s l m B) := fun h => by have h1 := (h.1 k HLE.out).1; rw [← HB.out] at h1; have := HU0.out.2 h1; cases this
            go_wp2
            go_ret
            exact ⟨says_no HN.out, after hb0 hbx3⟩
          | true =>
          have HP0 : Hid (HoldC l b) := HU0.out.1 rfl
          clear HU0
          have y0 := blk_cell hbox3 0 _ rfl
          have y1 := blk_cell hbox3 1 _ rfl
          have y2 := blk_cell hbox3 2 _ rfl
          have y3 := blk_cell hbox3 3 _ rfl
          have y4 := blk_cell hbox3 4 _ rfl
          have y5 := blk_cell hbox3 5 _ rfl
          have y6 := blk_cell hbox3 6 _ rfl
          have y7 := blk_cell hbox3 7 _ rfl
          have y8 := blk_cell hbox3 8 _ rfl
          have y9 := blk_cell hbox3 9 _ rfl
          have y10 := blk_cell hbox3 10 _ rfl
          have y11 := blk_cell hbox3 11 _ rfl
          have y12 := blk_cell hbox3 12 _ rfl
          have s6 := blk_cell (blk_below HBS.out hbx3) 6 _ rfl
          have l0' := blk_cell (blk_below HBL.out hbx3) 0 _ rfl
          have l1' := blk_cell (blk_below HBL.out hbx3) 1 _ rfl
          have l2' := blk_cell (blk_below HBL.out hbx3) 2 _ rfl
          go_wp2_with fail
          refine (holdsCabin_any b alg clg s l aca aro cca cro _ HLS.out.2.1 HCB.out (HCA.out.below (after hb0 hbx3)) (HRO.out.below (after hb0 hbx3))).mono ?_
          rintro e W4 ⟨⟨u1, rfl, hu1⟩, hbv⟩
          have HU1 : Hid (u1 = true ↔ HoldR s l b) := hu1
          have hbx4 := after hbx3 hbv
          have hbox4 := blk_below hbox3 hbv
          clear y0 y1 y2 y3 y4 y5 y6 y7 y8 y9 y10 y11 y12 s6 l0' l1' l2' hbx3 hbox3 hbv hu1 W3
          cases u1 with
          | false =>
            have HN : Hid (¬ Just s l m B) := fun h => by have h1 := (h.1 k HLE.out).2.1; rw [← HB.out] at h1; have := HU1.out.2 h1; cases this
            go_wp2
            go_ret
            exact ⟨says_no HN.out, after hb0 hbx4⟩
          | true =>
          have HP1 : Hid (HoldR s l b) := HU1.out.1 rfl
          clear HU1
          have y0 := blk_cell hbox4 0 _ rfl
          have y1 := blk_cell hbox4 1 _ rfl
          have y2 := blk_cell hbox4 2 _ rfl
          have y3 := blk_cell hbox4 3 _ rfl
          have y4 := blk_cell hbox4 4 _ rfl
          have y5 := blk_cell hbox4 5 _ rfl
          have y6 := blk_cell hbox4 6 _ rfl
          have y7 := blk_cell hbox4 7 _ rfl
          have y8 := blk_cell hbox4 8 _ rfl
          have y9 := blk_cell hbox4 9 _ rfl
          have y10 := blk_cell hbox4 10 _ rfl
          have y11 := blk_cell hbox4 11 _ rfl
          have y12 := blk_cell hbox4 12 _ rfl
          have s6 := blk_cell (blk_below HBS.out hbx4) 6 _ rfl
          have l0' := blk_cell (blk_below HBL.out hbx4) 0 _ rfl
          have l1' := blk_cell (blk_below HBL.out hbx4) 1 _ rfl
          have l2' := blk_cell (blk_below HBL.out hbx4) 2 _ rfl
          go_wp2_with fail
          refine (holdsSeats_any b alg clg l ase cse _ HLS.out.2.2 (HSE.out.below (after hb0 hbx4))).mono ?_
          rintro e W5 ⟨⟨u2, rfl, hu2⟩, hbv⟩
          have HU2 : Hid (u2 = true ↔ HoldT l b) := hu2
          have hbx5 := after hbx4 hbv
          have hbox5 := blk_below hbox4 hbv
          clear y0 y1 y2 y3 y4 y5 y6 y7 y8 y9 y10 y11 y12 s6 l0' l1' l2' hbx4 hbox4 hbv hu2 W4
          cases u2 with
          | false =>
            have HN : Hid (¬ Just s l m B) := fun h => by have h1 := (h.1 k HLE.out).2.2; rw [← HB.out] at h1; have := HU2.out.2 h1; cases this
            go_wp2
            go_ret
            exact ⟨says_no HN.out, after hb0 hbx5⟩
          | true =>
          have HP2 : Hid (HoldT l b) := HU2.out.1 rfl
          clear HU2
          go_wp2
          go_roundw
          case rel => exact ⟨k + 1, by omega, by go_num, by rw [cnt_no (P := fun j => ¬ NoCar (B j)) (by rw [← HB.out]; exact HQ1.out), ← HM1.out], by rw [cnt_no (P := fun j => ¬ NoCab (B j)) (by rw [← HB.out]; exact HQ2.out), ← HM2.out], fun j hj => by
            by_cases e : j = k
            · subst e; rw [← HB.out]; exact ⟨HP0.out, HP1.out, HP2.out⟩
            · exact HA.out j (by omega), hbx5⟩
          case measure => simp [intOf]; omega
    · obtain rfl : k = m := by omega
      have l0' := blk_cell (blk_below HBL.out hbel) 0 _ rfl
      have l1' := blk_cell (blk_below HBL.out hbel) 1 _ rfl
      have l2' := blk_cell (blk_below HBL.out hbel) 2 _ rfl
      have HJ : Hid (Just s l k B ↔ l.stn = m1 ∧ l.ron = m2 ∧ l.sen = k) := by
        show Just s l k B ↔ l.stn = m1 ∧ l.ron = m2 ∧ l.sen = k
        unfold Just
        rw [← HM1.out, ← HM2.out]
        exact ⟨fun h => h.2, fun h => ⟨HA.out, h⟩⟩
      have hbe := after hb0 hbel
      clear hbel HM1 HM2 HA
      by_cases v1 : l.stn = m1
      case neg =>
        have e1 : ((l.stn : Int) == (m1 : Int)) = false := by simp; omega
        have HN : Hid (¬ Just s l k B) := fun h => v1 (HJ.out.1 h).1
        clear v1
        go_wp2
        go_ret
        exact ⟨says_no HN.out, hbe⟩
      have e1 : ((l.stn : Int) == (m1 : Int)) = true := by simp; omega
      by_cases v2 : l.ron = m2
      case neg =>
        have e2 : ((l.ron : Int) == (m2 : Int)) = false := by simp; omega
        have HN : Hid (¬ Just s l k B) := fun h => v2 (HJ.out.1 h).2.1
        clear v1 v2
        go_wp2
        go_ret
        exact ⟨says_no HN.out, hbe⟩
      have e2 : ((l.ron : Int) == (m2 : Int)) = true := by simp; omega
      by_cases v3 : l.sen = k
      case neg =>
        have e3 : ((l.sen : Int) == (k : Int)) = false := by simp; omega
        have HN : Hid (¬ Just s l k B) := fun h => v3 (HJ.out.1 h).2.2
        clear v1 v2 v3
        go_wp2
        go_ret
        exact ⟨says_no HN.out, hbe⟩
      have e3 : ((l.sen : Int) == (k : Int)) = true := by simp; omega
      have HN : Hid (Just s l k B) := HJ.out.2 ⟨v1, v2, v3⟩
      clear v1 v2 v3
      go_wp2
      go_ret
      exact ⟨says_yes HN.out, hbe⟩
end Go.Proofs.YtlelckbeoclhbaaGreat

namespace Go.Proofs.YtlelckbeoclhbaaGreat
open Go.RowKit
theorem fitsOn_any (ao : Option Addr) (n c : Nat) (p : Pairs) (F : Nat → Int) (x l s h : Int) (w : World) (hl : p.n = n) (hn : n ≤ 4) (hz : PairsAt w ao p) :
    Calls Tryz.prog 167 #[.slice ao n c, .agg #[.int .i64 (F 0), .int .i64 (F 1), .int .i64 (F 2), .int .i64 (F 3)], .agg #[.int .i64 x, .int .i64 l, .int .i64 s, .int .i64 h]] w fun e w' => SaysIf (Fits p F ⟨x, l, s, h⟩) e ∧ Below w.heap.size w w' := by
  have HL : Hid (p.n = n) := hl
  clear hl
  go_enter Tryz.func167, Tryz.ntmps167
  go_upto_region 1 with fail
  have b0 : ((w.alloc (.cells #[.int .i64 (F 0), .int .i64 (F 1), .int .i64 (F 2), .int .i64 (F 3)] 204)).alloc (.cells #[.int .i64 x, .int .i64 l, .int .i64 s, .int .i64 h] 118)).heap[w.heap.size]? = some (.cells #[.int .i64 (F 0), .int .i64 (F 1), .int .i64 (F 2), .int .i64 (F 3)] 204 (0, 0)) := blk_alloc (heap_alloc_new w _) _
  have b1 : ((w.alloc (.cells #[.int .i64 (F 0), .int .i64 (F 1), .int .i64 (F 2), .int .i64 (F 3)] 204)).alloc (.cells #[.int .i64 x, .int .i64 l, .int .i64 s, .int .i64 h] 118)).heap[w.heap.size + 1]? = some (.cells #[.int .i64 x, .int .i64 l, .int .i64 s, .int .i64 h] 118 (0, 0)) := by simpa using heap_alloc_new (w.alloc _) _
  have hb0 : Below w.heap.size w ((w.alloc (.cells #[.int .i64 (F 0), .int .i64 (F 1), .int .i64 (F 2), .int .i64 (F 3)] 204)).alloc (.cells #[.int .i64 x, .int .i64 l, .int .i64 s, .int .i64 h] 118)) := push (push (Below.refl _ _) _) _
  generalize (w.alloc (.cells #[.int .i64 (F 0), .int .i64 (F 1), .int .i64 (F 2), .int .i64 (F 3)] 204)).alloc (.cells #[.int .i64 x, .int .i64 l, .int .i64 s, .int .i64 h] 118) = W at b0 b1 hb0 ⊢
  have s0 := blk_lt b0
  have s1 := blk_lt b1
  have z0 : ∀ g : Grown W, g.val.cell? ⟨w.heap.size + 1, 0, none⟩ = some (.int .i64 x) := fun g => (g.bel.cell s1).trans (blk_cell b1 0 _ rfl)
  have z1 : ∀ g : Grown W, g.val.cell? ⟨w.heap.size + 1, 1, none⟩ = some (.int .i64 l) := fun g => (g.bel.cell s1).trans (blk_cell b1 1 _ rfl)
  have z2 : ∀ g : Grown W, g.val.cell? ⟨w.heap.size + 1, 2, none⟩ = some (.int .i64 s) := fun g => (g.bel.cell s1).trans (blk_cell b1 2 _ rfl)
  have z3 : ∀ g : Grown W, g.val.cell? ⟨w.heap.size + 1, 3, none⟩ = some (.int .i64 h) := fun g => (g.bel.cell s1).trans (blk_cell b1 3 _ rfl)
  have y : Hid (∀ m, m < 4 → ∀ g : Grown W, g.val.cell? ⟨w.heap.size, m, none⟩ = some (.int .i64 (F m))) := by
    intro m hm g
    refine (g.bel.cell s0).trans ?_
    have : m = 0 ∨ m = 1 ∨ m = 2 ∨ m = 3 := by omega
    rcases this with rfl | rfl | rfl | rfl
    · exact blk_cell b0 0 _ rfl
    · exact blk_cell b0 1 _ rfl
    · exact blk_cell b0 2 _ rfl
    · exact blk_cell b0 3 _ rfl
  clear b0 b1 s0 s1
  have hwr : IntKind.i64.wrap ((n : Int) - 1) = (n : Int) - 1 := by rw [IntKind.wrap_i64]; omega
  by_cases h1 : In x 1 9999
  · have e1 : decide (In x 1 9999) = true := decide_eq_true h1
    have H1 : Hid (In x 1 9999) := h1
    clear h1
    by_cases h2 : In s 1 2000 ∧ In h 1 500
    · have e2 : decide (In s 1 2000 ∧ In h 1 500) = true := decide_eq_true h2
      have H2 : Hid (In s 1 2000 ∧ In h 1 500) := h2
      clear h2
      by_cases h3 : In l 0 ((n : Int) - 1)
      · have e3 : decide (In l 0 ((n : Int) - 1)) = true := decide_eq_true h3
        have H3 : Hid (In l 0 ((n : Int) - 1)) := h3
        obtain ⟨m, rfl⟩ : ∃ m : Nat, l = m := ⟨l.toNat, by unfold In at h3; omega⟩
        have hm : m < n := by unfold In at h3; omega
        clear h3
        obtain ⟨b, off, rfl, g1, g2⟩ := hz m (by rw [HL.out]; exact hm)
        have hb := World.block_lt_of_cell? w _ g1
        have y2 : ∀ g : Grown W, g.val.cell? ⟨b, off + m * 2 + 1, none⟩ = some (.int .i64 (p.B m)) := fun g => ((after hb0 g.bel).cell (p := ⟨b, off + m * 2 + 1, none⟩) hb).trans g2
        have y3 : ∀ g : Grown W, g.val.cell? ⟨w.heap.size, m, none⟩ = some (.int .i64 (F m)) := y.out m (by omega)
        have i1 : (0 : Int) ≤ (m : Int) := by omega
        have i2 : (m : Int) < (n : Int) := by omega
        have i3 : (m : Int) < 4 := by omega
        have i4 : m < 4 := by omega
        clear g1 g2
        by_cases h4 : h ≤ p.B m
        · have e4 : decide (h ≤ p.B m) = true := decide_eq_true h4
          have H4 : Hid (h ≤ p.B m) := h4
          clear h4
          by_cases h5 : s ≤ F m
          · have e5 : decide (s ≤ F m) = true := decide_eq_true h5
            have H5 : Hid (s ≤ F m) := h5
            clear h5
            refine wp_region_grow (by kernel_rfl) (by kernel_rfl) ?_
            repeat (first | go_big_quiet_skip | (go_big_quiet_want; go_big_quiet_op; first | go_big_quiet_on | (apply Exists.intro; refine ⟨fun g => ?_, ?_⟩; (focus (first | (go_at_call 146; refine grown_call (v := .bool true) ((isBy_is _ _).mono ?_); rintro e w2 ⟨rfl, rfl⟩; exact ⟨by rw [e1], Below.refl _ _⟩) | (go_at_call 174; refine grown_call (v := .bool true) ((isCar_is _ _ _).mono ?_); rintro e w2 ⟨rfl, rfl⟩; exact ⟨by rw [e2], Below.refl _ _⟩) | (go_at_call 143; refine grown_call (v := .bool true) ((within_is _ _ _ _).mono ?_); rintro e w2 ⟨rfl, rfl⟩; exact ⟨by rw [e3], Below.refl _ _⟩))); go_big_quiet_on)))
            refine wpQuiet_nil ?_
            rintro _ ⟨g, rfl⟩
            go_wp2
            go_ret
            exact ⟨says_yes ⟨H1.out, H2.out.1, H2.out.2, by rw [HL.out]; exact H3.out, H4.out, H5.out⟩, after hb0 g.bel⟩
          · have e5 : decide (s ≤ F m) = false := decide_eq_false h5
            have H5 : Hid (¬ s ≤ F m) := h5
            clear h5
            refine wp_region_grow (by kernel_rfl) (by kernel_rfl) ?_
            repeat (first | go_big_quiet_skip | (go_big_quiet_want; go_big_quiet_op; first | go_big_quiet_on | (apply Exists.intro; refine ⟨fun g => ?_, ?_⟩; (focus (first | (go_at_call 146; refine grown_call (v := .bool true) ((isBy_is _ _).mono ?_); rintro e w2 ⟨rfl, rfl⟩; exact ⟨by rw [e1], Below.refl _ _⟩) | (go_at_call 174; refine grown_call (v := .bool true) ((isCar_is _ _ _).mono ?_); rintro e w2 ⟨rfl, rfl⟩; exact ⟨by rw [e2], Below.refl _ _⟩) | (go_at_call 143; refine grown_call (v := .bool true) ((within_is _ _ _ _).mono ?_); rintro e w2 ⟨rfl, rfl⟩; exact ⟨by rw [e3], Below.refl _ _⟩))); go_big_quiet_on)))
            refine wpQuiet_nil ?_
            rintro _ ⟨g, rfl⟩
            go_wp2
            go_ret
            exact ⟨says_no (fun h' => Int.not_le.2 H5.out h'.room), after hb0 g.bel⟩
        · have e4 : decide (h ≤ p.B m) = false := decide_eq_false h4
          have H4 : Hid (¬ h ≤ p.B m) := h4
          clear h4
          refine wp_region_grow (by kernel_rfl) (by kernel_rfl) ?_
          repeat (first | go_big_quiet_skip | (go_big_quiet_want; go_big_quiet_op; first | go_big_quiet_on | (apply Exists.intro; refine ⟨fun g => ?_, ?_⟩; (focus (first | (go_at_call 146; refine grown_call (v := .bool true) ((isBy_is _ _).mono ?_); rintro e w2 ⟨rfl, rfl⟩; exact ⟨by rw [e1], Below.refl _ _⟩) | (go_at_call 174; refine grown_call (v := .bool true) ((isCar_is _ _ _).mono ?_); rintro e w2 ⟨rfl, rfl⟩; exact ⟨by rw [e2], Below.refl _ _⟩) | (go_at_call 143; refine grown_call (v := .bool true) ((within_is _ _ _ _).mono ?_); rintro e w2 ⟨rfl, rfl⟩; exact ⟨by rw [e3], Below.refl _ _⟩))); go_big_quiet_on)))
          refine wpQuiet_nil ?_
          rintro _ ⟨g, rfl⟩
          go_wp2
          go_ret
          exact ⟨says_no (fun h' => Int.not_le.2 H4.out h'.high), after hb0 g.bel⟩
      · have e3 : decide (In l 0 ((n : Int) - 1)) = false := decide_eq_false h3
        have H3 : Hid (¬ In l 0 ((n : Int) - 1)) := h3
        clear h3
        refine wp_region_grow (by kernel_rfl) (by kernel_rfl) ?_
        repeat (first | go_big_quiet_skip | (go_big_quiet_want; go_big_quiet_op; first | go_big_quiet_on | (apply Exists.intro; refine ⟨fun g => ?_, ?_⟩; (focus (first | (go_at_call 146; refine grown_call (v := .bool true) ((isBy_is _ _).mono ?_); rintro e w2 ⟨rfl, rfl⟩; exact ⟨by rw [e1], Below.refl _ _⟩) | (go_at_call 174; refine grown_call (v := .bool true) ((isCar_is _ _ _).mono ?_); rintro e w2 ⟨rfl, rfl⟩; exact ⟨by rw [e2], Below.refl _ _⟩) | (go_at_call 143; refine grown_call (v := .bool false) ((within_is _ _ _ _).mono ?_); rintro e w2 ⟨rfl, rfl⟩; exact ⟨by rw [e3], Below.refl _ _⟩))); go_big_quiet_on)))
        refine wpQuiet_nil ?_
        rintro _ ⟨g, rfl⟩
        go_wp2
        go_ret
        exact ⟨says_no (fun h => H3.out (by have := h.ln; rw [HL.out] at this; exact this)), after hb0 g.bel⟩
    · have e2 : decide (In s 1 2000 ∧ In h 1 500) = false := decide_eq_false h2
      have H2 : Hid (¬ (In s 1 2000 ∧ In h 1 500)) := h2
      clear h2
      refine wp_region_grow (by kernel_rfl) (by kernel_rfl) ?_
      repeat (first | go_big_quiet_skip | (go_big_quiet_want; go_big_quiet_op; first | go_big_quiet_on | (apply Exists.intro; refine ⟨fun g => ?_, ?_⟩; (focus (first | (go_at_call 146; refine grown_call (v := .bool true) ((isBy_is _ _).mono ?_); rintro e w2 ⟨rfl, rfl⟩; exact ⟨by rw [e1], Below.refl _ _⟩) | (go_at_call 174; refine grown_call (v := .bool false) ((isCar_is _ _ _).mono ?_); rintro e w2 ⟨rfl, rfl⟩; exact ⟨by rw [e2], Below.refl _ _⟩))); go_big_quiet_on)))
      refine wpQuiet_nil ?_
      rintro _ ⟨g, rfl⟩
      go_wp2
      go_ret
      exact ⟨says_no (fun h => H2.out ⟨h.len, h.hei⟩), after hb0 g.bel⟩
  · have e1 : decide (In x 1 9999) = false := decide_eq_false h1
    have H1 : Hid (¬ In x 1 9999) := h1
    clear h1
    refine wp_region_grow (by kernel_rfl) (by kernel_rfl) ?_
    repeat (first | go_big_quiet_skip | (go_big_quiet_want; go_big_quiet_op; first | go_big_quiet_on | (apply Exists.intro; refine ⟨fun g => ?_, ?_⟩; (focus (first | (go_at_call 146; refine grown_call (v := .bool false) ((isBy_is _ _).mono ?_); rintro e w2 ⟨rfl, rfl⟩; exact ⟨by rw [e1], Below.refl _ _⟩))); go_big_quiet_on)))
    refine wpQuiet_nil ?_
    rintro _ ⟨g, rfl⟩
    go_wp2
    go_ret
    exact ⟨says_no (fun h => H1.out h.who), after hb0 g.bel⟩
end Go.Proofs.YtlelckbeoclhbaaGreat

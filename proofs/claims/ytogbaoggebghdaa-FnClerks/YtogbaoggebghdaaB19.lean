/-
  OWN TEXT: KitPutC, ToldI.
-/
import Derived.Deep.RegionLawGrows
import Derived.Test.YtogbaoggebghdaaB08
import Derived.Test.YtogbaoggebghdaaB18
namespace Go.Proofs.Ytogbaoggebghdaa
open Go.RowKit Classical

/-- S, with x at place k. -/
def putC (S : Nat → ClkD) (k : Nat) (x : ClkD) (i : Nat) : ClkD := if i = k then x else S i
theorem putC_at (S : Nat → ClkD) (k : Nat) (x : ClkD) : putC S k x k = x := if_pos rfl
theorem putC_ne (S : Nat → ClkD) (k : Nat) (x : ClkD) {i : Nat} (h : i ≠ k) : putC S k x i = S i := if_neg h
def ClkD.shut (c : ClkD) (b : Bool) : ClkD := { c with opn := b }
def ClkD.told (c : ClkD) (a : AnsD) : ClkD := { c with code := a.code, anam := a.anam, price := a.price, rwn := a.rwn, rw := a.rw }
theorem putC_put (S : Nat → ClkD) (k : Nat) (x y : ClkD) : putC (putC S k x) k y = putC S k y := by
  funext i
  unfold putC
  split <;> rfl

section
variable {w : World} {base N c g k : Nat} {S : Nat → ClkD} {R : Nat → Value}
theorem OwnClks.put1 (h : OwnClks w base (.slice (some ⟨g, 0, none⟩) N c) N S R) (b : Bool) : OwnClks (w.setCell ⟨g, k * 7 + 2, none⟩ (.bool b)) base (.slice (some ⟨g, 0, none⟩) N c) N (putC S k ((S k).shut b)) R := by
  have hk : Kept w (w.setCell ⟨g, k * 7 + 2, none⟩ (.bool b)) (fun x => x = g) := (Kept.refl w (fun x => x = g)).set (a := ⟨g, k * 7 + 2, none⟩) rfl _
  refine ⟨own_congr (own_store h.row (k * 7 + 2) (.bool b)) (fun j hj => ?_), fun i hi => ?_, h.apart⟩
  · by_cases h2 : j = k * 7 + 2
    · subst h2; rw [if_pos rfl, clkCell_2, putC_at]; rfl
    · rw [if_neg h2]
      by_cases e : j / 7 = k
      · unfold clkCell
        rw [e, putC_at, if_neg (show ¬ j % 7 = 2 by omega), if_neg (show ¬ j % 7 = 2 by omega)]
        rfl
      · unfold clkCell
        rw [putC_ne _ _ _ e]
  · have e : (putC S k ((S k).shut b) i).rwn = (S i).rwn ∧ (putC S k ((S k).shut b) i).rw = (S i).rw := by
      by_cases e : i = k
      · subst e; rw [putC_at]; exact ⟨rfl, rfl⟩
      · rw [putC_ne _ _ _ e]; exact ⟨rfl, rfl⟩
    rw [e.1, e.2]
    exact hk.own (h.rows i hi) (fun q hq1 hq2 => own_apart h.row (h.rows i hi) (by decide) q (by rw [hq2]; rfl) hq1)
theorem OwnClks.put4 {rv : Value} {lim : Nat} (h : OwnClks w base (.slice (some ⟨g, 0, none⟩) N c) N S R) (a : AnsD) (hlim : ∀ i, i < N → ∀ b, (R i).ownBlock = some b → b < lim) (hl : w.ownsRow lim 84 5 rv a.rwn (rowList a.rw a.rwn)) (hbl : base ≤ lim) :
    OwnClks ((((w.setCell ⟨g, k * 7 + 3, none⟩ (.int .i64 a.code)).setCell ⟨g, k * 7 + 4, none⟩ (.int .i64 a.anam)).setCell ⟨g, k * 7 + 5, none⟩ (.int .i64 a.price)).setCell ⟨g, k * 7 + 6, none⟩ rv) base (.slice (some ⟨g, 0, none⟩) N c) N (putC S k ((S k).told a)) (atV R k rv) := by
  have hk : Kept w ((((w.setCell ⟨g, k * 7 + 3, none⟩ (.int .i64 a.code)).setCell ⟨g, k * 7 + 4, none⟩ (.int .i64 a.anam)).setCell ⟨g, k * 7 + 5, none⟩ (.int .i64 a.price)).setCell ⟨g, k * 7 + 6, none⟩ rv) (fun x => x = g) :=
    ((((Kept.refl w (fun x => x = g)).set (a := ⟨g, k * 7 + 3, none⟩) rfl _).set (a := ⟨g, k * 7 + 4, none⟩) rfl _).set (a := ⟨g, k * 7 + 5, none⟩) rfl _).set (a := ⟨g, k * 7 + 6, none⟩) rfl _
  refine ⟨own_congr (own_store (own_store (own_store (own_store h.row (k * 7 + 3) (.int .i64 a.code)) (k * 7 + 4) (.int .i64 a.anam)) (k * 7 + 5) (.int .i64 a.price)) (k * 7 + 6) rv) (fun j hj => ?_), fun i hi => ?_, fun i j hij hj b h1 h3 => ?_⟩
  · by_cases h6 : j = k * 7 + 6
    · subst h6; rw [if_pos rfl, clkCell_6, atV_at]
    rw [if_neg h6]
    by_cases h5 : j = k * 7 + 5
    · subst h5; rw [if_pos rfl, clkCell_5, putC_at]; rfl
    rw [if_neg h5]
    by_cases h4 : j = k * 7 + 4
    · subst h4; rw [if_pos rfl, clkCell_4, putC_at]; rfl
    rw [if_neg h4]
    by_cases h3 : j = k * 7 + 3
    · subst h3; rw [if_pos rfl, clkCell_3, putC_at]; rfl
    rw [if_neg h3]
    by_cases e : j / 7 = k
    · have hm : j % 7 = 0 ∨ j % 7 = 1 ∨ j % 7 = 2 := by omega
      unfold clkCell
      rw [e, putC_at]
      rcases hm with hm | hm | hm <;> simp [hm, ClkD.told]
    · unfold clkCell
      rw [putC_ne _ _ _ e, atV_ne _ _ _ _ e]
  · by_cases e : i = k
    · subst e
      rw [putC_at, atV_at]
      exact hk.own (own_base hl hbl) (fun q hq1 hq2 => own_apart h.row hl (by decide) q (by rw [hq2]; rfl) hq1)
    · rw [putC_ne _ _ _ e, atV_ne _ _ _ _ e]
      exact hk.own (h.rows i hi) (fun q hq1 hq2 => own_apart h.row (h.rows i hi) (by decide) q (by rw [hq2]; rfl) hq1)
  · by_cases e : i = k
    · subst e
      rw [atV_at] at h1
      rw [atV_ne _ _ _ _ (by omega)] at h3
      have := (hl.lt b h1).1
      have := hlim j hj b h3
      omega
    · rw [atV_ne _ _ _ _ e] at h1
      by_cases e2 : j = k
      · subst e2
        rw [atV_at] at h3
        have := (hl.lt b h3).1
        have := hlim i (by omega) b h1
        omega
      · rw [atV_ne _ _ _ _ e2] at h3
        exact h.apart i j hij hj b h1 h3
end

/-- What SettleClerk answers: N' clerks S', and the code z. -/
def SettleIs (N : Nat) (S : Nat → ClkD) (nm : ByteArray) (a : AnsD) (N' : Nat) (S' : Nat → ClkD) (z : Int) : Prop :=
  (¬ ClerksOk N S ∧ N' = 0 ∧ z = 2) ∨
  (ClerksOk N S ∧ N' = N ∧ ∃ p, AtC N S nm p ∧
    ((∃ k : Nat, k < N ∧ p = k ∧ (S k).opn = true ∧ z = 0 ∧ ∀ i, i < N → S' i = putC S k (((S k).shut false).told a) i) ∨
     ((p = -1 ∨ ∃ k : Nat, k < N ∧ p = k ∧ (S k).opn = false) ∧ z = 3 ∧ ∀ i, i < N → S' i = S i)))
theorem AtC.one {N : Nat} {S : Nat → ClkD} {nm : ByteArray} {p q : Int} (h : AtC N S nm p) (h' : AtC N S nm q) : p = q := by
  rcases h with ⟨k, hk, rfl, h1, h2⟩ | ⟨rfl, h1⟩
  · rcases h' with ⟨j, hj, rfl, g1, g2⟩ | ⟨rfl, g1⟩
    · rcases Nat.lt_trichotomy k j with h | h | h
      · exact absurd h1 (g2 k h)
      · rw [h]
      · exact absurd g1 (h2 j h)
    · exact absurd h1 (g1 k hk)
  · rcases h' with ⟨j, hj, rfl, g1, g2⟩ | ⟨rfl, g1⟩
    · exact absurd g1 (h1 j hj)
    · rfl
theorem SettleIs.one {N : Nat} {S : Nat → ClkD} {nm : ByteArray} {a : AnsD} {N1 N2 : Nat} {S1 S2 : Nat → ClkD} {z1 z2 : Int} (h : SettleIs N S nm a N1 S1 z1) (h' : SettleIs N S nm a N2 S2 z2) : N2 = N1 ∧ z2 = z1 ∧ ∀ i, i < N1 → S2 i = S1 i := by
  rcases h with ⟨n, rfl, rfl⟩ | ⟨y, rfl, p, hp, h⟩
  · rcases h' with ⟨_, rfl, rfl⟩ | ⟨y, _⟩
    · exact ⟨rfl, rfl, fun i hi => absurd hi (Nat.not_lt_zero _)⟩
    · exact absurd y n
  · rcases h' with ⟨n, _⟩ | ⟨_, rfl, q, hq, h'⟩
    · exact absurd y n
    obtain rfl := hp.one hq
    rcases h with ⟨k, hk, e, ho, rfl, hS⟩ | ⟨hno, rfl, hS⟩
    · rcases h' with ⟨j, hj, e', ho', rfl, hS'⟩ | ⟨hno', rfl, hS'⟩
      · obtain rfl : k = j := by omega
        exact ⟨rfl, rfl, fun i hi => by rw [hS' i hi, hS i hi]⟩
      · rcases hno' with e' | ⟨j, hj, e', ho'⟩
        · omega
        · obtain rfl : k = j := by omega
          rw [ho] at ho'; cases ho'
    · rcases h' with ⟨j, hj, e', ho', rfl, hS'⟩ | ⟨hno', rfl, hS'⟩
      · rcases hno with e | ⟨k, hk, e, ho⟩
        · omega
        · obtain rfl : k = j := by omega
          rw [ho] at ho'; cases ho'
      · exact ⟨rfl, rfl, fun i hi => by rw [hS' i hi, hS i hi]⟩

end Go.Proofs.Ytogbaoggebghdaa

namespace Go.Proofs.Ytogbaoggebghdaa
open Go.RowKit Classical Go.MapKept Go.ChangeMaps

noncomputable def toldTo (S : Nat → ClkD) (O : ByteArray → Prop) (k i : Nat) : ClkD := if i < k then (S i).shut (decide (O (S i).nam)) else S i
theorem toldTo_ge (S : Nat → ClkD) (O : ByteArray → Prop) {k i : Nat} (h : ¬ i < k) : toldTo S O k i = S i := if_neg h
theorem toldTo_lt (S : Nat → ClkD) (O : ByteArray → Prop) {k i : Nat} (h : i < k) : toldTo S O k i = (S i).shut (decide (O (S i).nam)) := if_pos h
theorem toldTo_0 (S : Nat → ClkD) (O : ByteArray → Prop) : toldTo S O 0 = S := funext fun i => toldTo_ge S O (Nat.not_lt_zero i)
theorem toldTo_succ (S : Nat → ClkD) (O : ByteArray → Prop) (k i : Nat) : putC (toldTo S O k) k ((toldTo S O k k).shut (decide (O (S k).nam))) i = toldTo S O (k + 1) i := by
  by_cases e : i = k
  · subst e
    rw [putC_at, toldTo_lt S O (Nat.lt_succ_self i), toldTo_ge S O (Nat.lt_irrefl i)]
  · rw [putC_ne _ _ _ e]
    by_cases h : i < k
    · rw [toldTo_lt S O h, toldTo_lt S O (by omega)]
    · rw [toldTo_ge S O h, toldTo_ge S O (by omega)]
theorem Staff.put1 {w : World} {base sb mb K N c g k : Nat} {S : Nat → ClkD} {R : Nat → Value} {O : ByteArray → Prop} (h : Staff w base sb mb K (.slice (some ⟨g, 0, none⟩) N c) N S R O) (b : Bool) : Staff (w.setCell ⟨g, k * 7 + 2, none⟩ (.bool b)) base sb mb K (.slice (some ⟨g, 0, none⟩) N c) N (putC S k ((S k).shut b)) R O :=
  ⟨blk_set_other h.blk _ _ (fun e => h.vs g rfl e.symm), h.hsb, h.hmb, h.own.put1 b, h.set.kept ((Kept.refl w (fun b => b = g)).set (a := ⟨g, k * 7 + 2, none⟩) rfl _) (fun e => h.vm g rfl e.symm)⟩
theorem Staff.congr {w : World} {base sb mb K N : Nat} {v : Value} {S S' : Nat → ClkD} {R : Nat → Value} {O : ByteArray → Prop} (h : Staff w base sb mb K v N S R O) (e : ∀ i, i < N → S i = S' i) : Staff w base sb mb K v N S' R O := ⟨h.blk, h.hsb, h.hmb, h.own.congr e, h.set⟩

set_option maxHeartbeats 6400000 in
set_option maxRecDepth 100000 in
theorem told_any (w : World) (base sb mb K : Nat) (v : Value) (N : Nat) (S : Nat → ClkD) (R : Nat → Value) (O : ByteArray → Prop) (h : Staff w base sb mb K v N S R O) (hN : N ≤ 60) (hs : ∀ i, i < N → (S i).nam.size ≤ 1048576) :
    Calls Try.prog 43 #[.pointer (some ⟨sb, 0, none⟩)] w fun e w' => e = .returned v ∧ OwnClks w' base v N (toldTo S O N) R ∧ Kept w w' (fun b => v.ownBlock = some b) := by
  obtain ⟨ao, c, rfl, _⟩ := own_form h.own.row
  have HH : Hid (Staff w base sb mb K (.slice ao N c) N S R O) := h
  have HS : Hid (∀ i, i < N → (S i).nam.size ≤ 1048576) := hs
  have c0 := blk_cell h.blk 0 _ rfl
  clear h hs
  go_enter Try.func43, Try.ntmps43
  go_wp2
  go_loopw [10] (fun i wr => ∃ k : Nat, k ≤ N ∧ i = .int .i64 k ∧ Hid (Staff wr base sb mb K (.slice ao N c) N (toldTo S O k) R O) ∧ Hid (Kept w wr (fun b => (Value.slice ao N c).ownBlock = some b))) (fun i _ => N - (intOf i).toNat)
  case atStart => exact ⟨0, Nat.zero_le _, rfl, by rw [toldTo_0]; exact HH.out, Kept.refl _ _⟩
  case round =>
    obtain ⟨k, hk, rfl, HT, HKW⟩ := hrel
    by_cases hlt : k < N
    case neg =>
      obtain rfl : k = N := by omega
      have d0 := blk_cell HT.out.blk 0 _ rfl
      go_wp2
      go_ret
      exact ⟨rfl, HT.out.own, HKW.out⟩
    obtain ⟨g, rfl, hg1, hg2⟩ := own_addr HT.out.own.row (by omega)
    obtain ⟨ra, rc, eR, _⟩ := own_form (HT.out.own.rows k hlt)
    rw [toldTo_ge S O (Nat.lt_irrefl k)] at eR
    have c0 : wr.cell? ⟨g, k * 7, none⟩ = some (.string (S k).nam) := by rw [own_cell HT.out.own.row (k * 7) (by omega) rfl, clkCell_0, toldTo_ge S O (Nat.lt_irrefl k)]
    have c1 : wr.cell? ⟨g, k * 7 + 1, none⟩ = some (.int .i64 (S k).num) := by rw [own_cell HT.out.own.row (k * 7 + 1) (by omega) rfl, clkCell_1, toldTo_ge S O (Nat.lt_irrefl k)]
    have c2 : wr.cell? ⟨g, k * 7 + 2, none⟩ = some (.bool (S k).opn) := by rw [own_cell HT.out.own.row (k * 7 + 2) (by omega) rfl, clkCell_2, toldTo_ge S O (Nat.lt_irrefl k)]
    have c3 : wr.cell? ⟨g, k * 7 + 3, none⟩ = some (.int .i64 (S k).code) := by rw [own_cell HT.out.own.row (k * 7 + 3) (by omega) rfl, clkCell_3, toldTo_ge S O (Nat.lt_irrefl k)]
    have c4 : wr.cell? ⟨g, k * 7 + 4, none⟩ = some (.int .i64 (S k).anam) := by rw [own_cell HT.out.own.row (k * 7 + 4) (by omega) rfl, clkCell_4, toldTo_ge S O (Nat.lt_irrefl k)]
    have c5 : wr.cell? ⟨g, k * 7 + 5, none⟩ = some (.int .i64 (S k).price) := by rw [own_cell HT.out.own.row (k * 7 + 5) (by omega) rfl, clkCell_5, toldTo_ge S O (Nat.lt_irrefl k)]
    have c6 : wr.cell? ⟨g, k * 7 + 6, none⟩ = some (.slice ra (S k).rwn rc) := by rw [own_cell HT.out.own.row (k * 7 + 6) (by omega) rfl, clkCell_6, eR]
    have hsz := HS.out k hlt
    go_upto_region 4 with fail
    generalize hG : wr.alloc (.cells #[.string (S k).nam, .int .i64 (S k).num, .bool (S k).opn, .int .i64 (S k).code, .int .i64 (S k).anam, .int .i64 (S k).price, .slice ra (S k).rwn rc] 68) = Y at *
    have hbY : Below wr.heap.size wr Y := by rw [← hG]; exact push (Below.refl _ _) _
    have bC : Y.heap[wr.heap.size]? = some (.cells #[.string (S k).nam, .int .i64 (S k).num, .bool (S k).opn, .int .i64 (S k).code, .int .i64 (S k).anam, .int .i64 (S k).price, .slice ra (S k).rwn rc] 68 (0, 0)) := by rw [← hG]; exact heap_alloc_new _ _
    clear hG c0 c1 c2 c3 c4 c5 c6
    have HY : Hid (Staff Y base sb mb K (.slice (some ⟨g, 0, none⟩) N c) N (toldTo S O k) R O) := HT.out.below hbY
    have n0 := blk_cell bC 0 _ rfl
    have s0 := blk_cell HY.out.blk 0 _ rfl
    have i0 : (0 : Int) ≤ (k : Int) := by omega
    have i2 : (k : Int) < (N : Int) := by omega
    have HCALL : Hid (∀ Z, Below Y.heap.size Y Z → Calls Try.prog 49 #[.pointer (some ⟨sb, 0, none⟩), .string (S k).nam] Z fun e w3 => e = .returned (.bool (decide (O (S k).nam))) ∧ Below Y.heap.size Y w3) := fun Z hZ => (isOpen_any Z base sb mb K _ N _ R O (S k).nam (HY.out.below hZ) hsz).mono fun e w3 ⟨h1, h2⟩ => ⟨h1, after hZ h2⟩
    obtain ⟨bo, hbo⟩ : ∃ bo : Bool, bo = decide (O (S k).nam) := ⟨_, rfl⟩
    rw [← hbo] at HCALL
    have HBO : Hid (bo = decide (O (S k).nam)) := hbo
    clear hbo
    go_region_law (first
      | (go_simp; go_at_call 49; (with_reducible refine Calls.mono (HCALL.out _ ?_) ?_); (focus (repeat (first | exact Below.refl _ _ | refine Below.drew ?_))); rintro e w3 ⟨rfl, hb3⟩; have z3 := HY.out.below hb3; have t0 := blk_cell z3.blk 0 _ rfl; have t2 := own_cell z3.own.row (k * 7 + 2) (by omega) rfl; have tf : w3.frozen? ⟨g, k * 7 + 2, none⟩ = false := (by obtain ⟨cur, hcur⟩ := own_blk z3.own.row (g := g) rfl; exact blk_free hcur _); dsimp only))
    all_goals
      have hF := z3.put1 (k := k) bo
      have hkF : Kept w (w3.setCell ⟨g, k * 7 + 2, none⟩ (.bool bo)) (fun b => (Value.slice (some ⟨g, 0, none⟩) N c).ownBlock = some b) := (HKW.out.trans (Kept.of_below (after hbY hb3))).set (a := ⟨g, k * 7 + 2, none⟩) rfl _
      have HF : Hid (Staff (w3.setCell ⟨g, k * 7 + 2, none⟩ (.bool bo)) base sb mb K (.slice (some ⟨g, 0, none⟩) N c) N (toldTo S O (k + 1)) R O) := by
        refine Staff.congr hF (fun i _ => ?_)
        rw [HBO.out]
        exact toldTo_succ S O k i
      have HKF : Hid _ := hkF
      clear hF hkF t0 t2 tf z3 hb3
      go_wp2
      go_roundw
      case rel => exact ⟨k + 1, by omega, by go_num, HF, HKF⟩
      case measure => simp [intOf]; omega

end Go.Proofs.Ytogbaoggebghdaa

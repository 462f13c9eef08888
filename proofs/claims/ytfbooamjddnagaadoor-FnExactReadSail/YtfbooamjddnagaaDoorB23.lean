/-
  OWN TEXT: SpecTx2, SpecTx3.
-/
import Derived.Test.YtfbooamjddnagaaDoorB09
import Derived.Test.YtfbooamjddnagaaDoorB14
import Derived.Test.YtfbooamjddnagaaDoorB22
namespace Go.Proofs.YtfbooamjddnagaaDoor
open Go.RowKit

set_option maxRecDepth 100000 in
theorem l11Words_any (w : World) : Calls Tryd.prog 38 #[] w fun e w' => ∃ g, e = .returned (.slice (some ⟨g, 0, none⟩) 10 10) ∧ Hid (∀ k, k < 10 → w'.cell? ⟨g, k, none⟩ = some (.string (wordT k))) ∧ Below w.heap.size w w' := by
  have hb : Below w.heap.size w (w.alloc (.cells #[.string ⟨#[]⟩, .string ⟨#[113, 117, 111, 116, 101]⟩, .string ⟨#[104, 111, 108, 100]⟩, .string ⟨#[98, 111, 111, 107]⟩, .string ⟨#[99, 111, 110, 102, 105, 114, 109]⟩, .string ⟨#[97, 109, 101, 110, 100]⟩, .string ⟨#[99, 97, 110, 99, 101, 108]⟩, .string ⟨#[116, 114, 97, 110, 115, 102, 101, 114]⟩, .string ⟨#[101, 120, 112, 105, 114, 101]⟩, .string ⟨#[109, 97, 110, 105, 102, 101, 115, 116]⟩] 9)) := push (Below.refl _ _) _
  have hn := heap_alloc_new w (.cells #[.string ⟨#[]⟩, .string ⟨#[113, 117, 111, 116, 101]⟩, .string ⟨#[104, 111, 108, 100]⟩, .string ⟨#[98, 111, 111, 107]⟩, .string ⟨#[99, 111, 110, 102, 105, 114, 109]⟩, .string ⟨#[97, 109, 101, 110, 100]⟩, .string ⟨#[99, 97, 110, 99, 101, 108]⟩, .string ⟨#[116, 114, 97, 110, 115, 102, 101, 114]⟩, .string ⟨#[101, 120, 112, 105, 114, 101]⟩, .string ⟨#[109, 97, 110, 105, 102, 101, 115, 116]⟩] 9)
  have HK : Hid (∀ k, k < 10 → (w.alloc (.cells #[.string ⟨#[]⟩, .string ⟨#[113, 117, 111, 116, 101]⟩, .string ⟨#[104, 111, 108, 100]⟩, .string ⟨#[98, 111, 111, 107]⟩, .string ⟨#[99, 111, 110, 102, 105, 114, 109]⟩, .string ⟨#[97, 109, 101, 110, 100]⟩, .string ⟨#[99, 97, 110, 99, 101, 108]⟩, .string ⟨#[116, 114, 97, 110, 115, 102, 101, 114]⟩, .string ⟨#[101, 120, 112, 105, 114, 101]⟩, .string ⟨#[109, 97, 110, 105, 102, 101, 115, 116]⟩] 9)).cell? ⟨w.heap.size, k, none⟩ = some (.string (wordT k))) := fun k hk => by
    have hc : k = 0 ∨ k = 1 ∨ k = 2 ∨ k = 3 ∨ k = 4 ∨ k = 5 ∨ k = 6 ∨ k = 7 ∨ k = 8 ∨ k = 9 := by omega
    rcases hc with rfl | rfl | rfl | rfl | rfl | rfl | rfl | rfl | rfl | rfl
    · exact blk_cell hn 0 _ rfl
    · exact blk_cell hn 1 _ rfl
    · exact blk_cell hn 2 _ rfl
    · exact blk_cell hn 3 _ rfl
    · exact blk_cell hn 4 _ rfl
    · exact blk_cell hn 5 _ rfl
    · exact blk_cell hn 6 _ rfl
    · exact blk_cell hn 7 _ rfl
    · exact blk_cell hn 8 _ rfl
    · exact blk_cell hn 9 _ rfl
  clear hn
  go_enter Tryd.func38, Tryd.ntmps38
  go_wp2
  go_ret
  exact ⟨_, rfl, HK, hb⟩

/-- The text so far, beside the operation's box. -/
structure XSt (w wx : World) (co : Array Value) (T : ByteArray) (m : Nat) : Prop where
  o : wx.heap[w.heap.size]? = some (.cells co 32 (0, 0))
  bel : Below w.heap.size w wx
  sz : T.size ≤ 2000 * m
theorem XSt.below {w wx wy : World} {co : Array Value} {T : ByteArray} {m : Nat} (h : XSt w wx co T m) (hb : Below wx.heap.size wx wy) : XSt w wy co T m := ⟨blk_below h.o hb, after h.bel hb, h.sz⟩
theorem XSt.more {w wx : World} {co : Array Value} {T : ByteArray} {m m' : Nat} (h : XSt w wx co T m) (hm : m ≤ m') : XSt w wx co T m' := ⟨h.o, h.bel, by have := h.sz; omega⟩

theorem flagN {x : OpD} {k : Nat} (h : HasText x) (hk : x.kind.toNat = k) : decide (In x.kind 4 8) = fName k := by
  have := h.1.1
  unfold In at this
  rw [Bool.eq_iff_iff, decide_eq_true_eq]
  unfold fName In
  rw [decide_eq_true_eq]
  omega
theorem flagO {x : OpD} {k : Nat} (h : HasText x) (hk : x.kind.toNat = k) : (x.own.toList == []) = !(fOwner k) := by
  have h1 := h.1.1
  have h2 := h.1.2.1
  unfold In at h1
  unfold OwnerOk at h2
  unfold fOwner
  by_cases c : x.kind = 2 ∨ x.kind = 3 ∨ x.kind = 7
  · rw [if_pos c] at h2
    rw [decide_eq_true (by omega : k = 2 ∨ k = 3 ∨ k = 7)]
    have h3 := h2.1
    rw [show (!true) = false from rfl, beq_eq_false_iff_ne]
    intro e
    have : x.own = ⟨#[]⟩ := toList_inj (by rw [e]; simp [ByteArray.toList_eq])
    rw [this] at h3
    exact absurd h3 (by decide)
  · rw [if_neg c] at h2
    rw [decide_eq_false (by omega : ¬ (k = 2 ∨ k = 3 ∨ k = 7))]
    have : x.own = ⟨#[]⟩ := by
      apply ByteArray.ext
      exact Array.eq_empty_of_size_eq_zero h2
    rw [this]
    simp [ByteArray.toList_eq]
theorem flagL {x : OpD} {k : Nat} (h : HasText x) (hk : x.kind.toNat = k) : decide (0 < x.lgn) = decide (0 < fLegs k) := by
  have h1 := h.1.1
  have h2 := h.1.2.2.2.1
  unfold In at h1
  unfold LegsOkFor at h2
  unfold fLegs
  rw [Bool.eq_iff_iff, decide_eq_true_eq, decide_eq_true_eq]
  by_cases c : HasLegs x.kind
  · rw [if_pos c] at h2
    unfold HasLegs at c
    rw [if_pos (by omega)]
    omega
  · rw [if_neg c] at h2
    unfold HasLegs at c
    rw [if_neg (by omega)]
    by_cases d : x.kind = 9
    · rw [if_pos d] at h2
      rw [if_pos (by omega)]
      omega
    · rw [if_neg d] at h2
      rw [if_neg (by omega)]
      omega
theorem flagP {x : OpD} {k : Nat} (h : HasText x) (hk : x.kind.toNat = k) : decide (HasLegs x.kind) = fParty k := by
  rw [Bool.eq_iff_iff, decide_eq_true_eq]
  exact (hasLegs_of h hk).symm
theorem flagU {x : OpD} {k : Nat} (h : HasText x) (hk : x.kind.toNat = k) : (x.kind == 2) = fUntil k := by
  have h1 := h.1.1
  unfold In at h1
  unfold fUntil
  rw [Bool.eq_iff_iff, decide_eq_true_eq, beq_iff_eq]
  omega
theorem flagW {x : OpD} {k : Nat} (h : HasText x) (hk : x.kind.toNat = k) : ((x.kind == 6) || (x.kind == 8)) = fNow k := by
  have h1 := h.1.1
  unfold In at h1
  unfold fNow
  rw [Bool.eq_iff_iff, decide_eq_true_eq, Bool.or_eq_true, beq_iff_eq, beq_iff_eq]
  omega

set_option maxHeartbeats 3200000 in
set_option maxRecDepth 100000 in
theorem l11Op_any (x : OpD) (alg : Option Addr) (clg : Nat) (w : World) (hx : HasText x) (hlg : IntsAt w alg x.lgn x.lg) :
    Calls Tryd.prog 28 #[.agg #[.int .i64 x.kind, .string x.own, .int .i64 x.name, .slice alg x.lgn clg, .int .i64 x.pe, .int .i64 x.len, .int .i64 x.hei, .int .i64 x.cl, .bool x.all, .int .i64 x.be, .int .i64 x.unt, .int .i64 x.now]] w fun e w' => e = .returned (.string (opT x)) ∧ Below w.heap.size w w' := by
  have HX : Hid (HasText x) := hx
  have HLG : Hid (IntsAt w alg x.lgn x.lg) := hlg
  obtain ⟨k, hk⟩ : ∃ k : Nat, x.kind = (k : Int) := ⟨x.kind.toNat, by have := hx.1.1.1; omega⟩
  have HKD : Hid (x.kind.toNat = k) := by show x.kind.toNat = k; omega
  have HKI : Hid (x.kind = (k : Int)) := hk
  have hk9 : 1 ≤ k ∧ k ≤ 9 := by have := hx.1.1; unfold In at this; omega
  have hb0 : Below w.heap.size w (w.alloc (.cells #[.int .i64 x.kind, .string x.own, .int .i64 x.name, .slice alg x.lgn clg, .int .i64 x.pe, .int .i64 x.len, .int .i64 x.hei, .int .i64 x.cl, .bool x.all, .int .i64 x.be, .int .i64 x.unt, .int .i64 x.now] 32)) := push (Below.refl _ _) _
  have b0 := heap_alloc_new w (.cells #[.int .i64 x.kind, .string x.own, .int .i64 x.name, .slice alg x.lgn clg, .int .i64 x.pe, .int .i64 x.len, .int .i64 x.hei, .int .i64 x.cl, .bool x.all, .int .i64 x.be, .int .i64 x.unt, .int .i64 x.now] 32)
  clear hx hlg hk
  go_enter Tryd.func28, Tryd.ntmps28
  go_upto_region 1 with fail
  generalize w.alloc (.cells #[.int .i64 x.kind, .string x.own, .int .i64 x.name, .slice alg x.lgn clg, .int .i64 x.pe, .int .i64 x.len, .int .i64 x.hei, .int .i64 x.cl, .bool x.all, .int .i64 x.be, .int .i64 x.unt, .int .i64 x.now] 32) = W at hb0 b0 ⊢
  have y0 : W.cell? ⟨w.heap.size, 0, none⟩ = some (.int .i64 (k : Int)) := by rw [← HKI.out]; exact blk_cell b0 0 _ rfl
  have hk0 : (0 : Int) ≤ (k : Int) := by omega
  have hk1 : (k : Int) < 10 := by omega
  go_cut [3] (fun v wx => v = .string (wordT k) ∧ Hid (Below W.heap.size W wx))
  case first =>
    go_region_with (first
      | (go_at_call 38; refine (l11Words_any _).mono ?_; rintro e w2 ⟨g, rfl, HW, hb2⟩; have hb3 : Below W.heap.size W w2 := (by first | exact hb2 | exact after (Below.refl _ _).drew hb2); have y2 : w2.cell? ⟨w.heap.size, 0, none⟩ = some (.int .i64 (k : Int)) := (by rw [← HKI.out]; exact blk_cell (blk_below b0 hb3) 0 _ rfl); have z2 := HW.out k (by omega)))
    all_goals
      go_wp2
      go_meet
      exact ⟨rfl, hb3⟩
  case rest =>
  obtain ⟨rfl, HW⟩ := hcut
  have HS0 : Hid (XSt w wc #[.int .i64 x.kind, .string x.own, .int .i64 x.name, .slice alg x.lgn clg, .int .i64 x.pe, .int .i64 x.len, .int .i64 x.hei, .int .i64 x.cl, .bool x.all, .int .i64 x.be, .int .i64 x.unt, .int .i64 x.now] (joinT spT (opP0 x)) 1) := ⟨blk_below b0 HW.out, after hb0 HW.out, by unfold opP0; rw [joinT_one]; have := wordT_size x.kind.toNat; omega⟩
  have e0 : wordT k = joinT spT (opP0 x) := by unfold opP0; rw [joinT_one, HKD.out]
  rw [e0]
  clear e0 y0 hk0 hk1 b0 hb0 HW
  clear W
  obtain ⟨T0, hT0⟩ : ∃ T, T = joinT spT (opP0 x) := ⟨_, rfl⟩
  have HT0 : Hid (T0 = joinT spT (opP0 x)) := hT0
  rw [← hT0] at HS0 ⊢
  clear hT0
  obtain ⟨q1, hq1⟩ : ∃ q, q = fName k := ⟨_, rfl⟩
  have HQ1 : Hid (fName k = q1) := hq1.symm
  obtain ⟨wo, hwo⟩ : ∃ z, z = wc := ⟨_, rfl⟩
  subst hwo
  have y0 := blk_cell HS0.out.o 0 _ rfl
  go_wp2_with fail
  have cn := l7Named_is x.kind wo
  rw [flagN HX.out HKD.out, ← hq1] at cn
  clear hq1
  refine cn.mono ?_
  clear cn
  rintro e w1 ⟨rfl, hw1⟩
  have hw1 := hw1.symm
  subst hw1
  clear y0
  go_upto_if 11 with fail
  go_cut [3] (fun v wx => ∃ T, v = .string T ∧ Hid (T = joinT spT (opP1 x) ∧ XSt w wx #[.int .i64 x.kind, .string x.own, .int .i64 x.name, .slice alg x.lgn clg, .int .i64 x.pe, .int .i64 x.len, .int .i64 x.hei, .int .i64 x.cl, .bool x.all, .int .i64 x.be, .int .i64 x.unt, .int .i64 x.now] T 2))
  case first =>
    cases q1 with
    | false =>
      go_wp2
      go_meet
      exact ⟨_, rfl, by rw [HT0.out]; unfold opP1; exact (joinT_non (by rw [HKD.out]; exact HQ1.out)).symm, HS0.out.more (by omega)⟩
    | true =>
      have HE : Hid (T0 ++ (⟨#[32]⟩ ++ (numT x.name)) = joinT spT (opP1 x)) := by
        show T0 ++ (⟨#[32]⟩ ++ (numT x.name)) = joinT spT (opP1 x)
        rw [HT0.out]
        unfold opP1
        exact (joinT_opt (opP0_ne x) (by rw [HKD.out]; exact HQ1.out)).symm
      have z2 := blk_cell HS0.out.o 2 _ rfl
      have hr := rng1 HX.out HKD.out HQ1.out
      have sn := numT_size (n := x.name) (by omega) (by omega)
      have s0 := HS0.out.sz
      have r1 := add_run ⟨#[32]⟩ (numT x.name) (by show 1 ≤ _; omega) (by omega)
      have s1 : ((⟨#[32]⟩ : ByteArray) ++ (numT x.name)).size ≤ 1001 := by rw [ByteArray.size_append]; show 1 + _ ≤ _; omega
      have r2 := add_run T0 (⟨#[32]⟩ ++ (numT x.name)) (by omega) (by omega)
      have s2 : (T0 ++ (⟨#[32]⟩ ++ (numT x.name))).size ≤ 2000 * 2 := by rw [ByteArray.size_append]; omega
      go_wp2_with fail
      refine (l1Num_any (n := x.name) (by omega) (by omega) _).mono ?_
      rintro e w3 ⟨rfl, hb3⟩
      go_wp2
      go_meet
      exact ⟨_, rfl, HE.out, ⟨blk_below HS0.out.o hb3, after HS0.out.bel hb3, s2⟩⟩
  case rest =>
  obtain ⟨T1, rfl, HC⟩ := hcut
  have HT1 : Hid (T1 = joinT spT (opP1 x)) := HC.out.1
  have HS1 : Hid (XSt w wc #[.int .i64 x.kind, .string x.own, .int .i64 x.name, .slice alg x.lgn clg, .int .i64 x.pe, .int .i64 x.len, .int .i64 x.hei, .int .i64 x.cl, .bool x.all, .int .i64 x.be, .int .i64 x.unt, .int .i64 x.now] T1 2) := HC.out.2
  clear HC HS0 HT0
  obtain ⟨q2, hq2⟩ : ∃ q, q = fOwner k := ⟨_, rfl⟩
  have HQ2 : Hid (fOwner k = q2) := hq2.symm
  obtain ⟨wo, hwo⟩ : ∃ z, z = wc := ⟨_, rfl⟩
  subst hwo
  have y1 := blk_cell HS1.out.o 1 _ rfl
  have fo := flagO HX.out HKD.out
  rw [← hq2] at fo
  clear hq2
  go_upto_if 20 with fail
  go_cut [3] (fun v wx => ∃ T, v = .string T ∧ Hid (T = joinT spT (opP2 x) ∧ XSt w wx #[.int .i64 x.kind, .string x.own, .int .i64 x.name, .slice alg x.lgn clg, .int .i64 x.pe, .int .i64 x.len, .int .i64 x.hei, .int .i64 x.cl, .bool x.all, .int .i64 x.be, .int .i64 x.unt, .int .i64 x.now] T 3))
  case first =>
    clear fo y1
    cases q2 with
    | false =>
      go_wp2
      go_meet
      exact ⟨_, rfl, by rw [HT1.out]; unfold opP2; exact (joinT_non (by rw [HKD.out]; exact HQ2.out)).symm, HS1.out.more (by omega)⟩
    | true =>
      have HE : Hid (T1 ++ (⟨#[32]⟩ ++ x.own) = joinT spT (opP2 x)) := by
        show T1 ++ (⟨#[32]⟩ ++ x.own) = joinT spT (opP2 x)
        rw [HT1.out]
        unfold opP2
        exact (joinT_opt (opP1_ne x) (by rw [HKD.out]; exact HQ2.out)).symm
      have z1 := blk_cell HS1.out.o 1 _ rfl
      have sn : x.own.size ≤ 1000 := by
        have h1 := HX.out.1.2.1
        unfold OwnerOk at h1
        split at h1
        · have := h1.2.1; omega
        · omega
      have s0 := HS1.out.sz
      have r1 := add_run ⟨#[32]⟩ x.own (by show 1 ≤ _; omega) (by omega)
      have s1 : ((⟨#[32]⟩ : ByteArray) ++ x.own).size ≤ 1001 := by rw [ByteArray.size_append]; show 1 + _ ≤ _; omega
      have r2 := add_run T1 (⟨#[32]⟩ ++ x.own) (by omega) (by omega)
      have s2 : (T1 ++ (⟨#[32]⟩ ++ x.own)).size ≤ 2000 * 3 := by rw [ByteArray.size_append]; omega
      have hb3 : Below wo.heap.size wo wo := Below.refl _ _
      go_wp2
      go_meet
      exact ⟨_, rfl, HE.out, ⟨blk_below HS1.out.o hb3, after HS1.out.bel hb3, s2⟩⟩
  case rest =>
  obtain ⟨T2, rfl, HC⟩ := hcut
  have HT2 : Hid (T2 = joinT spT (opP2 x)) := HC.out.1
  have HS2 : Hid (XSt w wc #[.int .i64 x.kind, .string x.own, .int .i64 x.name, .slice alg x.lgn clg, .int .i64 x.pe, .int .i64 x.len, .int .i64 x.hei, .int .i64 x.cl, .bool x.all, .int .i64 x.be, .int .i64 x.unt, .int .i64 x.now] T2 3) := HC.out.2
  clear HC HS1 HT1 fo y1
  obtain ⟨q3, hq3⟩ : ∃ q, q = decide (0 < fLegs k) := ⟨_, rfl⟩
  have HQ3 : Hid (decide (0 < fLegs k) = q3) := hq3.symm
  obtain ⟨wo, hwo⟩ : ∃ z, z = wc := ⟨_, rfl⟩
  subst hwo
  have y3 := blk_cell HS2.out.o 3 _ rfl
  have fo := flagL HX.out HKD.out
  rw [← hq3] at fo
  clear hq3
  go_upto_if 29 with fail
  go_cut [3] (fun v wx => ∃ T, v = .string T ∧ Hid (T = joinT spT (opP3 x) ∧ XSt w wx #[.int .i64 x.kind, .string x.own, .int .i64 x.name, .slice alg x.lgn clg, .int .i64 x.pe, .int .i64 x.len, .int .i64 x.hei, .int .i64 x.cl, .bool x.all, .int .i64 x.be, .int .i64 x.unt, .int .i64 x.now] T 4))
  case first =>
    clear fo y3
    cases q3 with
    | false =>
      go_wp2
      go_meet
      exact ⟨_, rfl, by rw [HT2.out]; unfold opP3; exact (joinT_non (by rw [HKD.out]; exact HQ3.out)).symm, HS2.out.more (by omega)⟩
    | true =>
      have HE : Hid (T2 ++ (⟨#[32]⟩ ++ (legsT x.lgn x.lg)) = joinT spT (opP3 x)) := by
        show T2 ++ (⟨#[32]⟩ ++ (legsT x.lgn x.lg)) = joinT spT (opP3 x)
        rw [HT2.out]
        unfold opP3
        exact (joinT_opt (opP2_ne x) (by rw [HKD.out]; exact HQ3.out)).symm
      have z3 := blk_cell HS2.out.o 3 _ rfl
      have hr := rng3 HX.out HKD.out HQ3.out
      have sn : (legsT x.lgn x.lg).size ≤ 1000 := legs_small HX.out HKD.out HQ3.out
      have s0 := HS2.out.sz
      have r1 := add_run ⟨#[32]⟩ (legsT x.lgn x.lg) (by show 1 ≤ _; omega) (by omega)
      have s1 : ((⟨#[32]⟩ : ByteArray) ++ (legsT x.lgn x.lg)).size ≤ 1001 := by rw [ByteArray.size_append]; show 1 + _ ≤ _; omega
      have r2 := add_run T2 (⟨#[32]⟩ ++ (legsT x.lgn x.lg)) (by omega) (by omega)
      have s2 : (T2 ++ (⟨#[32]⟩ ++ (legsT x.lgn x.lg))).size ≤ 2000 * 4 := by rw [ByteArray.size_append]; omega
      go_wp2_with fail
      refine (l11Legs_any alg x.lgn clg x.lg _ hr.2 (HLG.out.below HS2.out.bel) HX.out.2).mono ?_
      rintro e w3 ⟨rfl, hb3⟩
      go_wp2
      go_meet
      exact ⟨_, rfl, HE.out, ⟨blk_below HS2.out.o hb3, after HS2.out.bel hb3, s2⟩⟩
  case rest =>
  obtain ⟨T3, rfl, HC⟩ := hcut
  have HT3 : Hid (T3 = joinT spT (opP3 x)) := HC.out.1
  have HS3 : Hid (XSt w wc #[.int .i64 x.kind, .string x.own, .int .i64 x.name, .slice alg x.lgn clg, .int .i64 x.pe, .int .i64 x.len, .int .i64 x.hei, .int .i64 x.cl, .bool x.all, .int .i64 x.be, .int .i64 x.unt, .int .i64 x.now] T3 4) := HC.out.2
  clear HC HS2 HT2 fo y3
  obtain ⟨q4, hq4⟩ : ∃ q, q = fParty k := ⟨_, rfl⟩
  have HQ4 : Hid (fParty k = q4) := hq4.symm
  obtain ⟨wo, hwo⟩ : ∃ z, z = wc := ⟨_, rfl⟩
  subst hwo
  have y0 := blk_cell HS3.out.o 0 _ rfl
  go_wp2_with fail
  have cn := l7Legs_is x.kind wo
  rw [flagP HX.out HKD.out, ← hq4] at cn
  clear hq4
  refine cn.mono ?_
  clear cn
  rintro e w1 ⟨rfl, hw1⟩
  have hw1 := hw1.symm
  subst hw1
  clear y0
  go_upto_if 38 with fail
  go_cut [3] (fun v wx => ∃ T, v = .string T ∧ Hid (T = joinT spT (opP4 x) ∧ XSt w wx #[.int .i64 x.kind, .string x.own, .int .i64 x.name, .slice alg x.lgn clg, .int .i64 x.pe, .int .i64 x.len, .int .i64 x.hei, .int .i64 x.cl, .bool x.all, .int .i64 x.be, .int .i64 x.unt, .int .i64 x.now] T 5))
  case first =>
    cases q4 with
    | false =>
      go_wp2
      go_meet
      exact ⟨_, rfl, by rw [HT3.out]; unfold opP4; exact (joinT_non (by rw [HKD.out]; exact HQ4.out)).symm, HS3.out.more (by omega)⟩
    | true =>
      have HE : Hid (T3 ++ (⟨#[32]⟩ ++ (partyT x.p)) = joinT spT (opP4 x)) := by
        show T3 ++ (⟨#[32]⟩ ++ (partyT x.p)) = joinT spT (opP4 x)
        rw [HT3.out]
        unfold opP4
        exact (joinT_opt (opP3_ne x) (by rw [HKD.out]; exact HQ4.out)).symm
      have z4 := blk_cell HS3.out.o 4 _ rfl
      have z5 := blk_cell HS3.out.o 5 _ rfl
      have z6 := blk_cell HS3.out.o 6 _ rfl
      have z7 := blk_cell HS3.out.o 7 _ rfl
      have z8 := blk_cell HS3.out.o 8 _ rfl
      have z9 := blk_cell HS3.out.o 9 _ rfl
      have hr := rng4 HX.out HKD.out HQ4.out
      have sn : (partyT x.p).size ≤ 1000 := party_small HX.out HKD.out HQ4.out
      have s0 := HS3.out.sz
      have r1 := add_run ⟨#[32]⟩ (partyT x.p) (by show 1 ≤ _; omega) (by omega)
      have s1 : ((⟨#[32]⟩ : ByteArray) ++ (partyT x.p)).size ≤ 1001 := by rw [ByteArray.size_append]; show 1 + _ ≤ _; omega
      have r2 := add_run T3 (⟨#[32]⟩ ++ (partyT x.p)) (by omega) (by omega)
      have s2 : (T3 ++ (⟨#[32]⟩ ++ (partyT x.p))).size ≤ 2000 * 5 := by rw [ByteArray.size_append]; omega
      go_wp2_with fail
      refine (l11Party_any x.p _ hr).mono ?_
      rintro e w3 ⟨rfl, hb3⟩
      go_wp2
      go_meet
      exact ⟨_, rfl, HE.out, ⟨blk_below HS3.out.o hb3, after HS3.out.bel hb3, s2⟩⟩
  case rest =>
  obtain ⟨T4, rfl, HC⟩ := hcut
  have HT4 : Hid (T4 = joinT spT (opP4 x)) := HC.out.1
  have HS4 : Hid (XSt w wc #[.int .i64 x.kind, .string x.own, .int .i64 x.name, .slice alg x.lgn clg, .int .i64 x.pe, .int .i64 x.len, .int .i64 x.hei, .int .i64 x.cl, .bool x.all, .int .i64 x.be, .int .i64 x.unt, .int .i64 x.now] T4 5) := HC.out.2
  clear HC HS3 HT3
  obtain ⟨q5, hq5⟩ : ∃ q, q = fUntil k := ⟨_, rfl⟩
  have HQ5 : Hid (fUntil k = q5) := hq5.symm
  obtain ⟨wo, hwo⟩ : ∃ z, z = wc := ⟨_, rfl⟩
  subst hwo
  have y0 := blk_cell HS4.out.o 0 _ rfl
  have fo := flagU HX.out HKD.out
  rw [← hq5] at fo
  clear hq5
  go_upto_if 47 with fail
  go_cut [3] (fun v wx => ∃ T, v = .string T ∧ Hid (T = joinT spT (opP5 x) ∧ XSt w wx #[.int .i64 x.kind, .string x.own, .int .i64 x.name, .slice alg x.lgn clg, .int .i64 x.pe, .int .i64 x.len, .int .i64 x.hei, .int .i64 x.cl, .bool x.all, .int .i64 x.be, .int .i64 x.unt, .int .i64 x.now] T 6))
  case first =>
    clear fo y0
    cases q5 with
    | false =>
      go_wp2
      go_meet
      exact ⟨_, rfl, by rw [HT4.out]; unfold opP5; exact (joinT_non (by rw [HKD.out]; exact HQ5.out)).symm, HS4.out.more (by omega)⟩
    | true =>
      have HE : Hid (T4 ++ (⟨#[32]⟩ ++ (numT x.unt)) = joinT spT (opP5 x)) := by
        show T4 ++ (⟨#[32]⟩ ++ (numT x.unt)) = joinT spT (opP5 x)
        rw [HT4.out]
        unfold opP5
        exact (joinT_opt (opP4_ne x) (by rw [HKD.out]; exact HQ5.out)).symm
      have z10 := blk_cell HS4.out.o 10 _ rfl
      have hr := rng5 HX.out HKD.out HQ5.out
      have sn := numT_size (n := x.unt) (by omega) (by omega)
      have s0 := HS4.out.sz
      have r1 := add_run ⟨#[32]⟩ (numT x.unt) (by show 1 ≤ _; omega) (by omega)
      have s1 : ((⟨#[32]⟩ : ByteArray) ++ (numT x.unt)).size ≤ 1001 := by rw [ByteArray.size_append]; show 1 + _ ≤ _; omega
      have r2 := add_run T4 (⟨#[32]⟩ ++ (numT x.unt)) (by omega) (by omega)
      have s2 : (T4 ++ (⟨#[32]⟩ ++ (numT x.unt))).size ≤ 2000 * 6 := by rw [ByteArray.size_append]; omega
      go_wp2_with fail
      refine (l1Num_any (n := x.unt) (by omega) (by omega) _).mono ?_
      rintro e w3 ⟨rfl, hb3⟩
      go_wp2
      go_meet
      exact ⟨_, rfl, HE.out, ⟨blk_below HS4.out.o hb3, after HS4.out.bel hb3, s2⟩⟩
  case rest =>
  obtain ⟨T5, rfl, HC⟩ := hcut
  have HT5 : Hid (T5 = joinT spT (opP5 x)) := HC.out.1
  have HS5 : Hid (XSt w wc #[.int .i64 x.kind, .string x.own, .int .i64 x.name, .slice alg x.lgn clg, .int .i64 x.pe, .int .i64 x.len, .int .i64 x.hei, .int .i64 x.cl, .bool x.all, .int .i64 x.be, .int .i64 x.unt, .int .i64 x.now] T5 6) := HC.out.2
  clear HC HS4 HT4 fo y0
  obtain ⟨q6, hq6⟩ : ∃ q, q = fNow k := ⟨_, rfl⟩
  have HQ6 : Hid (fNow k = q6) := hq6.symm
  obtain ⟨wo, hwo⟩ : ∃ z, z = wc := ⟨_, rfl⟩
  subst hwo
  have y0 := blk_cell HS5.out.o 0 _ rfl
  have fo := flagW HX.out HKD.out
  rw [← hq6] at fo
  clear hq6
  go_upto_region 12 with fail
  go_cut [61] (fun v wx => v = .bool q6 ∧ wx = wo)
  case first =>
    by_cases h6 : x.kind = 6
    · have e6 : (x.kind == 6) = true := by rw [beq_iff_eq]; exact h6
      have E : Hid (true = q6) := by show true = q6; rw [← fo, e6]; rfl
      clear fo h6
      go_wp2
      go_meet
      exact ⟨congrArg Value.bool E.out, rfl⟩
    · have e6 : (x.kind == 6) = false := by rw [beq_eq_false_iff_ne]; exact h6
      by_cases h8 : x.kind = 8
      · have e8 : (x.kind == 8) = true := by rw [beq_iff_eq]; exact h8
        have E : Hid (true = q6) := by show true = q6; rw [← fo, e6, e8]; rfl
        clear fo h6 h8
        go_wp2
        go_meet
        exact ⟨congrArg Value.bool E.out, rfl⟩
      · have e8 : (x.kind == 8) = false := by rw [beq_eq_false_iff_ne]; exact h8
        have E : Hid (false = q6) := by show false = q6; rw [← fo, e6, e8]; rfl
        clear fo h6 h8
        go_wp2
        go_meet
        exact ⟨congrArg Value.bool E.out, rfl⟩
  case rest =>
  obtain ⟨rfl, hwx⟩ := hcut
  have hwx := hwx.symm
  subst hwx
  clear y0 fo
  go_upto_if 61 with fail
  go_cut [3] (fun v wx => ∃ T, v = .string T ∧ Hid (T = joinT spT (opP6 x) ∧ XSt w wx #[.int .i64 x.kind, .string x.own, .int .i64 x.name, .slice alg x.lgn clg, .int .i64 x.pe, .int .i64 x.len, .int .i64 x.hei, .int .i64 x.cl, .bool x.all, .int .i64 x.be, .int .i64 x.unt, .int .i64 x.now] T 7))
  case first =>
    cases q6 with
    | false =>
      go_wp2
      go_meet
      exact ⟨_, rfl, by rw [HT5.out]; unfold opP6; exact (joinT_non (by rw [HKD.out]; exact HQ6.out)).symm, HS5.out.more (by omega)⟩
    | true =>
      have HE : Hid (T5 ++ (⟨#[32]⟩ ++ (numT x.now)) = joinT spT (opP6 x)) := by
        show T5 ++ (⟨#[32]⟩ ++ (numT x.now)) = joinT spT (opP6 x)
        rw [HT5.out]
        unfold opP6
        exact (joinT_opt (opP5_ne x) (by rw [HKD.out]; exact HQ6.out)).symm
      have z11 := blk_cell HS5.out.o 11 _ rfl
      have hr := rng6 HX.out HKD.out HQ6.out
      have sn := numT_size (n := x.now) (by omega) (by omega)
      have s0 := HS5.out.sz
      have r1 := add_run ⟨#[32]⟩ (numT x.now) (by show 1 ≤ _; omega) (by omega)
      have s1 : ((⟨#[32]⟩ : ByteArray) ++ (numT x.now)).size ≤ 1001 := by rw [ByteArray.size_append]; show 1 + _ ≤ _; omega
      have r2 := add_run T5 (⟨#[32]⟩ ++ (numT x.now)) (by omega) (by omega)
      have s2 : (T5 ++ (⟨#[32]⟩ ++ (numT x.now))).size ≤ 2000 * 7 := by rw [ByteArray.size_append]; omega
      go_wp2_with fail
      refine (l1Num_any (n := x.now) (by omega) (by omega) _).mono ?_
      rintro e w3 ⟨rfl, hb3⟩
      go_wp2
      go_meet
      exact ⟨_, rfl, HE.out, ⟨blk_below HS5.out.o hb3, after HS5.out.bel hb3, s2⟩⟩
  case rest =>
  obtain ⟨T6, rfl, HC⟩ := hcut
  have HT6 : Hid (T6 = joinT spT (opP6 x)) := HC.out.1
  have HS6 : Hid (XSt w wc #[.int .i64 x.kind, .string x.own, .int .i64 x.name, .slice alg x.lgn clg, .int .i64 x.pe, .int .i64 x.len, .int .i64 x.hei, .int .i64 x.cl, .bool x.all, .int .i64 x.be, .int .i64 x.unt, .int .i64 x.now] T6 7) := HC.out.2
  clear HC HS5 HT5
  go_wp2
  go_ret
  exact ⟨by rw [HT6.out]; rfl, HS6.out.bel⟩

end Go.Proofs.YtfbooamjddnagaaDoor

namespace Go.Proofs.YtfbooamjddnagaaDoor
open Go.RowKit

set_option maxHeartbeats 1600000 in
set_option maxRecDepth 100000 in
theorem specText_any (cs : List Value) (x : OpD) (w : World) (hs : x.own.size ≤ 1000000000000000) (h : OpD.Is w cs x) (hn : x.lgn ≤ 1000000000) :
    Calls Tryd.prog 8 #[.agg cs.toArray] w fun e w' => e = .returned (.tuple #[.string (textOf x), .bool (hasT x)]) ∧ Below w.heap.size w w' := by
  have HI : Hid (OpD.Is w cs x) := h
  obtain ⟨alg, clg, rfl, hlg, _⟩ := h
  have HLG : Hid (IntsAt w alg x.lgn x.lg) := hlg
  have hb0 : Below w.heap.size w (w.alloc (.cells #[.int .i64 x.kind, .string x.own, .int .i64 x.name, .slice alg x.lgn clg, .int .i64 x.pe, .int .i64 x.len, .int .i64 x.hei, .int .i64 x.cl, .bool x.all, .int .i64 x.be, .int .i64 x.unt, .int .i64 x.now] 32)) := push (Below.refl _ _) _
  have b0 := heap_alloc_new w (.cells #[.int .i64 x.kind, .string x.own, .int .i64 x.name, .slice alg x.lgn clg, .int .i64 x.pe, .int .i64 x.len, .int .i64 x.hei, .int .i64 x.cl, .bool x.all, .int .i64 x.be, .int .i64 x.unt, .int .i64 x.now] 32)
  clear hlg
  go_enter Tryd.func8, Tryd.ntmps8
  go_upto_region 1 with fail
  generalize w.alloc (.cells #[.int .i64 x.kind, .string x.own, .int .i64 x.name, .slice alg x.lgn clg, .int .i64 x.pe, .int .i64 x.len, .int .i64 x.hei, .int .i64 x.cl, .bool x.all, .int .i64 x.be, .int .i64 x.unt, .int .i64 x.now] 32) = W at hb0 b0 ⊢
  have y0 := blk_cell b0 0 _ rfl
  have y1 := blk_cell b0 1 _ rfl
  have y2 := blk_cell b0 2 _ rfl
  have y3 := blk_cell b0 3 _ rfl
  have y4 := blk_cell b0 4 _ rfl
  have y5 := blk_cell b0 5 _ rfl
  have y6 := blk_cell b0 6 _ rfl
  have y7 := blk_cell b0 7 _ rfl
  have y8 := blk_cell b0 8 _ rfl
  have y9 := blk_cell b0 9 _ rfl
  have y10 := blk_cell b0 10 _ rfl
  have y11 := blk_cell b0 11 _ rfl
  go_wp2_with fail
  obtain ⟨q, hq⟩ : ∃ q, q = decide (OpOk x) := ⟨_, rfl⟩
  have HQ : Hid (q = true ↔ OpOk x) := by show q = true ↔ OpOk x; rw [hq, decide_eq_true_eq]
  have cq := specOp_any [.int .i64 x.kind, .string x.own, .int .i64 x.name, .slice alg x.lgn clg, .int .i64 x.pe, .int .i64 x.len, .int .i64 x.hei, .int .i64 x.cl, .bool x.all, .int .i64 x.be, .int .i64 x.unt, .int .i64 x.now] x W hs (HI.out.below hb0)
  rw [← hq] at cq
  clear hq
  refine cq.mono ?_
  clear cq
  rintro e w2 ⟨rfl, hb2⟩
  have b2 := blk_below b0 hb2
  have hB2 := after hb0 hb2
  clear y0 y1 y2 y3 y4 y5 y6 y7 y8 y9 y10 y11 b0 hb0 hb2
  cases q with
  | false =>
    have hno : ¬ HasText x := fun h => by have := HQ.out.2 h.1; cases this
    have HR : Hid (textOf x = ⟨#[]⟩ ∧ hasT x = false) := textOf_not hno
    clear hno
    go_wp2
    exact bodyPost_ret (v := .tuple #[.string ⟨#[]⟩, .bool false]) (by simp [results, Tryd.results8, go_sem]) rfl ⟨by rw [HR.out.1, HR.out.2], hB2⟩
  | true =>
    have HOK : Hid (OpOk x) := by first | exact HQ.out.1 rfl | exact HQ.out.1 trivial
    have z3 := blk_cell b2 3 _ rfl
    clear HQ
    go_wp2
    go_loopw [5, 12] (fun _ vi wr => ∃ k : Nat, k ≤ x.lgn ∧ vi = .int .i64 k ∧ Hid (∀ i, i < k → In (x.lg i) 0 99999) ∧ Hid (Below w2.heap.size w2 wr)) (fun _ vi _ => x.lgn - (intOf vi).toNat)
    case atStart => exact ⟨0, Nat.zero_le _, rfl, fun i hi => by omega, Below.refl _ _⟩
    case round =>
      clear z3
      obtain ⟨k, hk, rfl, HA, HB⟩ := hrel
      by_cases hlt : k < x.lgn
      · obtain ⟨b, off, rfl, hc⟩ := HLG.out.below hB2 k hlt
        have hc' : wr.cell? ⟨b, off + k, none⟩ = some (.int .i64 (x.lg k)) := (HB.out.cell (World.block_lt_of_cell? w2 _ hc)).trans hc
        clear hc
        by_cases hin : In (x.lg k) 0 99999
        · go_wp2_with fail
          refine (l1In_yes (x.lg k) 0 99999 _ hin.1 hin.2).mono ?_
          rintro e w3 ⟨rfl, hb3⟩
          go_wp2
          go_roundw
          case rel => exact ⟨k + 1, by omega, by go_num, fun i hi => by
              by_cases e : i = k
              · rw [e]; exact hin
              · exact HA.out i (by omega), hb3 ▸ HB.out⟩
          case measure => simp [intOf]; omega
        · have hno : ¬ HasText x := fun h => hin (h.2 k hlt)
          have HR : Hid (textOf x = ⟨#[]⟩ ∧ hasT x = false) := textOf_not hno
          clear hno
          go_wp2_with fail
          refine (l1In_no (x.lg k) 0 99999 _ hin).mono ?_
          rintro e w3 ⟨rfl, hb3⟩
          have hB3 : Below w.heap.size w w3 := hb3 ▸ after hB2 HB.out
          clear hb3
          go_wp2
          exact bodyPost_ret (v := .tuple #[.string ⟨#[]⟩, .bool false]) (by simp [results, Tryd.results8, go_sem]) rfl ⟨by rw [HR.out.1, HR.out.2], hB3⟩
      · obtain rfl : x.lgn = k := by omega
        have HX : Hid (HasText x) := ⟨HOK.out, HA.out⟩
        have HR : Hid (textOf x = opT x ∧ hasT x = true) := textOf_yes HX.out
        have b3 := blk_below b2 HB.out
        have hB3 := after hB2 HB.out
        have y0 := blk_cell b3 0 _ rfl
        have y1 := blk_cell b3 1 _ rfl
        have y2 := blk_cell b3 2 _ rfl
        have y3 := blk_cell b3 3 _ rfl
        have y4 := blk_cell b3 4 _ rfl
        have y5 := blk_cell b3 5 _ rfl
        have y6 := blk_cell b3 6 _ rfl
        have y7 := blk_cell b3 7 _ rfl
        have y8 := blk_cell b3 8 _ rfl
        have y9 := blk_cell b3 9 _ rfl
        have y10 := blk_cell b3 10 _ rfl
        have y11 := blk_cell b3 11 _ rfl
        go_wp2_with fail
        refine (l11Op_any x alg clg _ HX.out (HLG.out.below hB3)).mono ?_
        rintro e w4 ⟨rfl, hb4⟩
        clear y0 y1 y2 y3 y4 y5 y6 y7 y8 y9 y10 y11
        go_wp2
        exact bodyPost_ret (v := .tuple #[.string (opT x), .bool true]) (by simp [results, Tryd.results8, go_sem]) rfl ⟨by rw [HR.out.1, HR.out.2], after hB3 hb4⟩

end Go.Proofs.YtfbooamjddnagaaDoor

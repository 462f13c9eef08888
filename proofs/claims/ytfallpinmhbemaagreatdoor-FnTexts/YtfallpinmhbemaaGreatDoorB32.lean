/-
  OWN TEXT: SpecTx2, SpecTx3, ListS, ImplS1, ImplLane.
-/
import Derived.Test.YtfallpinmhbemaaGreatDoorB29
import Derived.Test.YtfallpinmhbemaaGreatDoorB19
import Derived.Test.YtfallpinmhbemaaGreatDoorB31
import Derived.Test.YtfallpinmhbemaaGreatDoorB30
import Derived.Test.YtfallpinmhbemaaGreatDoorB01
namespace Go.Proofs.YtfallpinmhbemaaGreatDoor
open Go.RowKit

set_option maxRecDepth 100000 in
theorem l11Words_any (w : World) : Calls Tryz.prog 46 #[] w fun e w' => ∃ g, e = .returned (.slice (some ⟨g, 0, none⟩) 10 10) ∧ Hid (∀ k, k < 10 → w'.cell? ⟨g, k, none⟩ = some (.string (wordT k))) ∧ Below w.heap.size w w' := by
  have hb : Below w.heap.size w (w.alloc (.cells #[.string ⟨#[]⟩, .string ⟨#[113, 117, 111, 116, 101]⟩, .string ⟨#[104, 111, 108, 100]⟩, .string ⟨#[98, 111, 111, 107]⟩, .string ⟨#[99, 111, 110, 102, 105, 114, 109]⟩, .string ⟨#[97, 109, 101, 110, 100]⟩, .string ⟨#[99, 97, 110, 99, 101, 108]⟩, .string ⟨#[116, 114, 97, 110, 115, 102, 101, 114]⟩, .string ⟨#[101, 120, 112, 105, 114, 101]⟩, .string ⟨#[109, 97, 110, 105, 102, 101, 115, 116]⟩] 9)) := push (Below.refl _ _) _
  have hn := heap_alloc_new w (.cells #[.string ⟨#[]⟩, .string ⟨#[113, 117, 111, 116, 101]⟩, .string ⟨#[104, 111, 108, 100]⟩, .string ⟨#[98, 111, 111, 107]⟩, .string ⟨#[99, 111, 110, 102, 105, 114, 109]⟩, .string ⟨#[97, 109, 101, 110, 100]⟩, .string ⟨#[99, 97, 110, 99, 101, 108]⟩, .string ⟨#[116, 114, 97, 110, 115, 102, 101, 114]⟩, .string ⟨#[101, 120, 112, 105, 114, 101]⟩, .string ⟨#[109, 97, 110, 105, 102, 101, 115, 116]⟩] 9)
  have HK : Hid (∀ k, k < 10 → (w.alloc (.cells #[.string ⟨#[]⟩, .string ⟨#[113, 117, 111, 116, 101]⟩, .string ⟨#[104, 111, 108, 100]⟩, .string ⟨#[98, 111, 111, 107]⟩, .string ⟨#[99, 111, 110, 102, 105, 114, 109]⟩, .string ⟨#[97, 109, 101, 110, 100]⟩, .string ⟨#[99, 97, 110, 99, 101, 108]⟩, .string ⟨#[116, 114, 97, 110, 115, 102, 101, 114]⟩, .string ⟨#[101, 120, 112, 105, 114, 101]⟩, .string ⟨#[109, 97, 110, 105, 102, 101, 115, 116]⟩] 9)).cell? ⟨w.heap.size, k, none⟩ = some (.string (wordT k))) := fun k hk => by
    have hc : k = 0 ∨ k = 1 ∨ k = 2 ∨ k = 3 ∨ k = 4 ∨ k = 5 ∨ k = 6 ∨ k = 7 ∨ k = 8 ∨ k = 9 := by omega
    rcases hc with rfl | rfl | rfl | rfl | rfl | rfl | rfl | rfl | rfl | rfl
    · exact blk_cell hn 0 _ rfl
    · exact blk_cell hn 1 _ rfl
    · exact blk_cell hn 2 _ rfl
    · exact blk_cell hn 3 _ rfl
    · exact blk_cell hn 4 _ rfl
    · exact blk_cell hn 5 _ rfl
    · exact blk_cell hn 6 _ rfl
    · exact blk_cell hn 7 _ rfl
    · exact blk_cell hn 8 _ rfl
    · exact blk_cell hn 9 _ rfl
  clear hn
  go_enter Tryz.func46, Tryz.ntmps46
  go_wp2
  go_ret
  exact ⟨_, rfl, HK, hb⟩

/-- The text so far, beside the operation's box. -/
structure XSt (w wx : World) (co : Array Value) (T : ByteArray) (m : Nat) : Prop where
  o : wx.heap[w.heap.size]? = some (.cells co 27 (0, 0))
  bel : Below w.heap.size w wx
  sz : T.size ≤ 2000 * m
theorem XSt.below {w wx wy : World} {co : Array Value} {T : ByteArray} {m : Nat} (h : XSt w wx co T m) (hb : Below wx.heap.size wx wy) : XSt w wy co T m := ⟨blk_below h.o hb, after h.bel hb, h.sz⟩
theorem XSt.more {w wx : World} {co : Array Value} {T : ByteArray} {m m' : Nat} (h : XSt w wx co T m) (hm : m ≤ m') : XSt w wx co T m' := ⟨h.o, h.bel, by have := h.sz; omega⟩

theorem flagN {x : OpD} {k : Nat} (h : HasText x) (hk : x.kind.toNat = k) : decide (In x.kind 4 8) = fName k := by
  have := h.1.1
  unfold In at this
  rw [Bool.eq_iff_iff, decide_eq_true_eq]
  unfold fName In
  rw [decide_eq_true_eq]
  omega
theorem flagO {x : OpD} {k : Nat} (h : HasText x) (hk : x.kind.toNat = k) : (x.own.toList == []) = !(fOwner k) := by
  have h1 := h.1.1
  have h2 := h.1.2.1
  unfold In at h1
  unfold OwnerOk at h2
  unfold fOwner
  by_cases c : x.kind = 2 ∨ x.kind = 3 ∨ x.kind = 7
  · rw [if_pos c] at h2
    rw [decide_eq_true (by omega : k = 2 ∨ k = 3 ∨ k = 7)]
    have h3 := h2.1
    rw [show (!true) = false from rfl, beq_eq_false_iff_ne]
    intro e
    have : x.own = ⟨#[]⟩ := toList_inj (by rw [e]; simp [ByteArray.toList_eq])
    rw [this] at h3
    exact absurd h3 (by decide)
  · rw [if_neg c] at h2
    rw [decide_eq_false (by omega : ¬ (k = 2 ∨ k = 3 ∨ k = 7))]
    have : x.own = ⟨#[]⟩ := by
      apply ByteArray.ext
      exact Array.eq_empty_of_size_eq_zero h2
    rw [this]
    simp [ByteArray.toList_eq]
theorem flagL {x : OpD} {k : Nat} (h : HasText x) (hk : x.kind.toNat = k) : decide (0 < x.lgn) = decide (0 < fLegs k) := by
  have h1 := h.1.1
  have h2 := h.1.2.2.2.1
  unfold In at h1
  unfold LegsOkFor at h2
  unfold fLegs
  rw [Bool.eq_iff_iff, decide_eq_true_eq, decide_eq_true_eq]
  by_cases c : HasLegs x.kind
  · rw [if_pos c] at h2
    unfold HasLegs at c
    rw [if_pos (by omega)]
    omega
  · rw [if_neg c] at h2
    unfold HasLegs at c
    rw [if_neg (by omega)]
    by_cases d : x.kind = 9
    · rw [if_pos d] at h2
      rw [if_pos (by omega)]
      omega
    · rw [if_neg d] at h2
      rw [if_neg (by omega)]
      omega
theorem flagP {x : OpD} {k : Nat} (h : HasText x) (hk : x.kind.toNat = k) : decide (HasLegs x.kind) = fParty k := by
  rw [Bool.eq_iff_iff, decide_eq_true_eq]
  exact (hasLegs_of h hk).symm
theorem flagU {x : OpD} {k : Nat} (h : HasText x) (hk : x.kind.toNat = k) : (x.kind == 2) = fUntil k := by
  have h1 := h.1.1
  unfold In at h1
  unfold fUntil
  rw [Bool.eq_iff_iff, decide_eq_true_eq, beq_iff_eq]
  omega
theorem flagW {x : OpD} {k : Nat} (h : HasText x) (hk : x.kind.toNat = k) : ((x.kind == 6) || (x.kind == 8)) = fNow k := by
  have h1 := h.1.1
  unfold In at h1
  unfold fNow
  rw [Bool.eq_iff_iff, decide_eq_true_eq, Bool.or_eq_true, beq_iff_eq, beq_iff_eq]
  omega

set_option maxHeartbeats 3200000 in
set_option maxRecDepth 100000 in
theorem l11Op_any (x : OpD) (alg : Option Addr) (clg : Nat) (w : World) (hx : HasText x) (hlg : IntsAt w alg x.lgn x.lg) :
    Calls Tryz.prog 20 #[.agg #[.int .i64 x.kind, .string x.own, .int .i64 x.name, .slice alg x.lgn clg, .int .i64 x.pe, .int .i64 x.len, .int .i64 x.hei, .int .i64 x.cl, .bool x.all, .int .i64 x.be, .int .i64 x.unt, .int .i64 x.now]] w fun e w' => e = .returned (.string (opT x)) ∧ Below w.heap.size w w' := by
  have HX : Hid (HasText x) := hx
  have HLG : Hid (IntsAt w alg x.lgn x.lg) := hlg
  obtain ⟨k, hk⟩ : ∃ k : Nat, x.kind = (k : Int) := ⟨x.kind.toNat, by have := hx.1.1.1; omega⟩
  have HKD : Hid (x.kind.toNat = k) := by show x.kind.toNat = k; omega
  have HKI : Hid (x.kind = (k : Int)) := hk
  have hk9 : 1 ≤ k ∧ k ≤ 9 := by have := hx.1.1; unfold In at this; omega
  have hb0 : Below w.heap.size w (w.alloc (.cells #[.int .i64 x.kind, .string x.own, .int .i64 x.name, .slice alg x.lgn clg, .int .i64 x.pe, .int .i64 x.len, .int .i64 x.hei, .int .i64 x.cl, .bool x.all, .int .i64 x.be, .int .i64 x.unt, .int .i64 x.now] 27)) := push (Below.refl _ _) _
  have b0 := heap_alloc_new w (.cells #[.int .i64 x.kind, .string x.own, .int .i64 x.name, .slice alg x.lgn clg, .int .i64 x.pe, .int .i64 x.len, .int .i64 x.hei, .int .i64 x.cl, .bool x.all, .int .i64 x.be, .int .i64 x.unt, .int .i64 x.now] 27)
  clear hx hlg hk
  go_enter Tryz.func20, Tryz.ntmps20
  go_upto_region 1 with fail
  generalize w.alloc (.cells #[.int .i64 x.kind, .string x.own, .int .i64 x.name, .slice alg x.lgn clg, .int .i64 x.pe, .int .i64 x.len, .int .i64 x.hei, .int .i64 x.cl, .bool x.all, .int .i64 x.be, .int .i64 x.unt, .int .i64 x.now] 27) = W at hb0 b0 ⊢
  have y0 : W.cell? ⟨w.heap.size, 0, none⟩ = some (.int .i64 (k : Int)) := by rw [← HKI.out]; exact blk_cell b0 0 _ rfl
  have hk0 : (0 : Int) ≤ (k : Int) := by omega
  have hk1 : (k : Int) < 10 := by omega
  go_cut [3] (fun v wx => v = .string (wordT k) ∧ Hid (Below W.heap.size W wx))
  case first =>
    go_region_with (first
      | (go_at_call 46; refine (l11Words_any _).mono ?_; rintro e w2 ⟨g, rfl, HW, hb2⟩; have hb3 : Below W.heap.size W w2 := (by first | exact hb2 | exact after (Below.refl _ _).drew hb2); have y2 : w2.cell? ⟨w.heap.size, 0, none⟩ = some (.int .i64 (k : Int)) := (by rw [← HKI.out]; exact blk_cell (blk_below b0 hb3) 0 _ rfl); have z2 := HW.out k (by omega)))
    all_goals
      go_wp2
      go_meet
      exact ⟨rfl, hb3⟩
  case rest =>
  obtain ⟨rfl, HW⟩ := hcut
  have HS0 : Hid (XSt w wc #[.int .i64 x.kind, .string x.own, .int .i64 x.name, .slice alg x.lgn clg, .int .i64 x.pe, .int .i64 x.len, .int .i64 x.hei, .int .i64 x.cl, .bool x.all, .int .i64 x.be, .int .i64 x.unt, .int .i64 x.now] (joinT spT (opP0 x)) 1) := ⟨blk_below b0 HW.out, after hb0 HW.out, by unfold opP0; rw [joinT_one]; have := wordT_size x.kind.toNat; omega⟩
  have e0 : wordT k = joinT spT (opP0 x) := by unfold opP0; rw [joinT_one, HKD.out]
  rw [e0]
  clear e0 y0 hk0 hk1 b0 hb0 HW
  clear W
  obtain ⟨T0, hT0⟩ : ∃ T, T = joinT spT (opP0 x) := ⟨_, rfl⟩
  have HT0 : Hid (T0 = joinT spT (opP0 x)) := hT0
  rw [← hT0] at HS0 ⊢
  clear hT0
  obtain ⟨q1, hq1⟩ : ∃ q, q = fName k := ⟨_, rfl⟩
  have HQ1 : Hid (fName k = q1) := hq1.symm
  obtain ⟨wo, hwo⟩ : ∃ z, z = wc := ⟨_, rfl⟩
  subst hwo
  have y0 := blk_cell HS0.out.o 0 _ rfl
  go_wp2_with fail
  have cn := l7Named_is x.kind wo
  rw [flagN HX.out HKD.out, ← hq1] at cn
  clear hq1
  refine cn.mono ?_
  clear cn
  rintro e w1 ⟨rfl, hw1⟩
  have hw1 := hw1.symm
  subst hw1
  clear y0
  go_upto_if 11 with fail
  go_cut [3] (fun v wx => ∃ T, v = .string T ∧ Hid (T = joinT spT (opP1 x) ∧ XSt w wx #[.int .i64 x.kind, .string x.own, .int .i64 x.name, .slice alg x.lgn clg, .int .i64 x.pe, .int .i64 x.len, .int .i64 x.hei, .int .i64 x.cl, .bool x.all, .int .i64 x.be, .int .i64 x.unt, .int .i64 x.now] T 2))
  case first =>
    cases q1 with
    | false =>
      go_wp2
      go_meet
      exact ⟨_, rfl, by rw [HT0.out]; unfold opP1; exact (joinT_non (by rw [HKD.out]; exact HQ1.out)).symm, HS0.out.more (by omega)⟩
    | true =>
      have HE : Hid (T0 ++ (⟨#[32]⟩ ++ (numT x.name)) = joinT spT (opP1 x)) := by
        show T0 ++ (⟨#[32]⟩ ++ (numT x.name)) = joinT spT (opP1 x)
        rw [HT0.out]
        unfold opP1
        exact (joinT_opt (opP0_ne x) (by rw [HKD.out]; exact HQ1.out)).symm
      have z2 := blk_cell HS0.out.o 2 _ rfl
      have hr := rng1 HX.out HKD.out HQ1.out
      have sn := numT_size (n := x.name) (by omega) (by omega)
      have s0 := HS0.out.sz
      have r1 := add_run ⟨#[32]⟩ (numT x.name) (by show 1 ≤ _; omega) (by omega)
      have s1 : ((⟨#[32]⟩ : ByteArray) ++ (numT x.name)).size ≤ 1001 := by rw [ByteArray.size_append]; show 1 + _ ≤ _; omega
      have r2 := add_run T0 (⟨#[32]⟩ ++ (numT x.name)) (by omega) (by omega)
      have s2 : (T0 ++ (⟨#[32]⟩ ++ (numT x.name))).size ≤ 2000 * 2 := by rw [ByteArray.size_append]; omega
      go_wp2_with fail
      refine (l1Num_any (n := x.name) (by omega) (by omega) _).mono ?_
      rintro e w3 ⟨rfl, hb3⟩
      go_wp2
      go_meet
      exact ⟨_, rfl, HE.out, ⟨blk_below HS0.out.o hb3, after HS0.out.bel hb3, s2⟩⟩
  case rest =>
  obtain ⟨T1, rfl, HC⟩ := hcut
  have HT1 : Hid (T1 = joinT spT (opP1 x)) := HC.out.1
  have HS1 : Hid (XSt w wc #[.int .i64 x.kind, .string x.own, .int .i64 x.name, .slice alg x.lgn clg, .int .i64 x.pe, .int .i64 x.len, .int .i64 x.hei, .int .i64 x.cl, .bool x.all, .int .i64 x.be, .int .i64 x.unt, .int .i64 x.now] T1 2) := HC.out.2
  clear HC HS0 HT0
  obtain ⟨q2, hq2⟩ : ∃ q, q = fOwner k := ⟨_, rfl⟩
  have HQ2 : Hid (fOwner k = q2) := hq2.symm
  obtain ⟨wo, hwo⟩ : ∃ z, z = wc := ⟨_, rfl⟩
  subst hwo
  have y1 := blk_cell HS1.out.o 1 _ rfl
  have fo := flagO HX.out HKD.out
  rw [← hq2] at fo
  clear hq2
  go_upto_if 20 with fail
  go_cut [3] (fun v wx => ∃ T, v = .string T ∧ Hid (T = joinT spT (opP2 x) ∧ XSt w wx #[.int .i64 x.kind, .string x.own, .int .i64 x.name, .slice alg x.lgn clg, .int .i64 x.pe, .int .i64 x.len, .int .i64 x.hei, .int .i64 x.cl, .bool x.all, .int .i64 x.be, .int .i64 x.unt, .int .i64 x.now] T 3))
  case first =>
    clear fo y1
    cases q2 with
    | false =>
      go_wp2
      go_meet
      exact ⟨_, rfl, by rw [HT1.out]; unfold opP2; exact (joinT_non (by rw [HKD.out]; exact HQ2.out)).symm, HS1.out.more (by omega)⟩
    | true =>
      have HE : Hid (T1 ++ (⟨#[32]⟩ ++ x.own) = joinT spT (opP2 x)) := by
        show T1 ++ (⟨#[32]⟩ ++ x.own) = joinT spT (opP2 x)
        rw [HT1.out]
        unfold opP2
        exact (joinT_opt (opP1_ne x) (by rw [HKD.out]; exact HQ2.out)).symm
      have z1 := blk_cell HS1.out.o 1 _ rfl
      have sn : x.own.size ≤ 1000 := by
        have h1 := HX.out.1.2.1
        unfold OwnerOk at h1
        split at h1
        · have := h1.2.1; omega
        · omega
      have s0 := HS1.out.sz
      have r1 := add_run ⟨#[32]⟩ x.own (by show 1 ≤ _; omega) (by omega)
      have s1 : ((⟨#[32]⟩ : ByteArray) ++ x.own).size ≤ 1001 := by rw [ByteArray.size_append]; show 1 + _ ≤ _; omega
      have r2 := add_run T1 (⟨#[32]⟩ ++ x.own) (by omega) (by omega)
      have s2 : (T1 ++ (⟨#[32]⟩ ++ x.own)).size ≤ 2000 * 3 := by rw [ByteArray.size_append]; omega
      have hb3 : Below wo.heap.size wo wo := Below.refl _ _
      go_wp2
      go_meet
      exact ⟨_, rfl, HE.out, ⟨blk_below HS1.out.o hb3, after HS1.out.bel hb3, s2⟩⟩
  case rest =>
  obtain ⟨T2, rfl, HC⟩ := hcut
  have HT2 : Hid (T2 = joinT spT (opP2 x)) := HC.out.1
  have HS2 : Hid (XSt w wc #[.int .i64 x.kind, .string x.own, .int .i64 x.name, .slice alg x.lgn clg, .int .i64 x.pe, .int .i64 x.len, .int .i64 x.hei, .int .i64 x.cl, .bool x.all, .int .i64 x.be, .int .i64 x.unt, .int .i64 x.now] T2 3) := HC.out.2
  clear HC HS1 HT1 fo y1
  obtain ⟨q3, hq3⟩ : ∃ q, q = decide (0 < fLegs k) := ⟨_, rfl⟩
  have HQ3 : Hid (decide (0 < fLegs k) = q3) := hq3.symm
  obtain ⟨wo, hwo⟩ : ∃ z, z = wc := ⟨_, rfl⟩
  subst hwo
  have y3 := blk_cell HS2.out.o 3 _ rfl
  have fo := flagL HX.out HKD.out
  rw [← hq3] at fo
  clear hq3
  go_upto_if 29 with fail
  go_cut [3] (fun v wx => ∃ T, v = .string T ∧ Hid (T = joinT spT (opP3 x) ∧ XSt w wx #[.int .i64 x.kind, .string x.own, .int .i64 x.name, .slice alg x.lgn clg, .int .i64 x.pe, .int .i64 x.len, .int .i64 x.hei, .int .i64 x.cl, .bool x.all, .int .i64 x.be, .int .i64 x.unt, .int .i64 x.now] T 4))
  case first =>
    clear fo y3
    cases q3 with
    | false =>
      go_wp2
      go_meet
      exact ⟨_, rfl, by rw [HT2.out]; unfold opP3; exact (joinT_non (by rw [HKD.out]; exact HQ3.out)).symm, HS2.out.more (by omega)⟩
    | true =>
      have HE : Hid (T2 ++ (⟨#[32]⟩ ++ (legsT x.lgn x.lg)) = joinT spT (opP3 x)) := by
        show T2 ++ (⟨#[32]⟩ ++ (legsT x.lgn x.lg)) = joinT spT (opP3 x)
        rw [HT2.out]
        unfold opP3
        exact (joinT_opt (opP2_ne x) (by rw [HKD.out]; exact HQ3.out)).symm
      have z3 := blk_cell HS2.out.o 3 _ rfl
      have hr := rng3 HX.out HKD.out HQ3.out
      have sn : (legsT x.lgn x.lg).size ≤ 1000 := legs_small HX.out HKD.out HQ3.out
      have s0 := HS2.out.sz
      have r1 := add_run ⟨#[32]⟩ (legsT x.lgn x.lg) (by show 1 ≤ _; omega) (by omega)
      have s1 : ((⟨#[32]⟩ : ByteArray) ++ (legsT x.lgn x.lg)).size ≤ 1001 := by rw [ByteArray.size_append]; show 1 + _ ≤ _; omega
      have r2 := add_run T2 (⟨#[32]⟩ ++ (legsT x.lgn x.lg)) (by omega) (by omega)
      have s2 : (T2 ++ (⟨#[32]⟩ ++ (legsT x.lgn x.lg))).size ≤ 2000 * 4 := by rw [ByteArray.size_append]; omega
      go_wp2_with fail
      refine (l11Legs_any alg x.lgn clg x.lg _ hr.2 (HLG.out.below HS2.out.bel) HX.out.2).mono ?_
      rintro e w3 ⟨rfl, hb3⟩
      go_wp2
      go_meet
      exact ⟨_, rfl, HE.out, ⟨blk_below HS2.out.o hb3, after HS2.out.bel hb3, s2⟩⟩
  case rest =>
  obtain ⟨T3, rfl, HC⟩ := hcut
  have HT3 : Hid (T3 = joinT spT (opP3 x)) := HC.out.1
  have HS3 : Hid (XSt w wc #[.int .i64 x.kind, .string x.own, .int .i64 x.name, .slice alg x.lgn clg, .int .i64 x.pe, .int .i64 x.len, .int .i64 x.hei, .int .i64 x.cl, .bool x.all, .int .i64 x.be, .int .i64 x.unt, .int .i64 x.now] T3 4) := HC.out.2
  clear HC HS2 HT2 fo y3
  obtain ⟨q4, hq4⟩ : ∃ q, q = fParty k := ⟨_, rfl⟩
  have HQ4 : Hid (fParty k = q4) := hq4.symm
  obtain ⟨wo, hwo⟩ : ∃ z, z = wc := ⟨_, rfl⟩
  subst hwo
  have y0 := blk_cell HS3.out.o 0 _ rfl
  go_wp2_with fail
  have cn := l7Legs_is x.kind wo
  rw [flagP HX.out HKD.out, ← hq4] at cn
  clear hq4
  refine cn.mono ?_
  clear cn
  rintro e w1 ⟨rfl, hw1⟩
  have hw1 := hw1.symm
  subst hw1
  clear y0
  go_upto_if 38 with fail
  go_cut [3] (fun v wx => ∃ T, v = .string T ∧ Hid (T = joinT spT (opP4 x) ∧ XSt w wx #[.int .i64 x.kind, .string x.own, .int .i64 x.name, .slice alg x.lgn clg, .int .i64 x.pe, .int .i64 x.len, .int .i64 x.hei, .int .i64 x.cl, .bool x.all, .int .i64 x.be, .int .i64 x.unt, .int .i64 x.now] T 5))
  case first =>
    cases q4 with
    | false =>
      go_wp2
      go_meet
      exact ⟨_, rfl, by rw [HT3.out]; unfold opP4; exact (joinT_non (by rw [HKD.out]; exact HQ4.out)).symm, HS3.out.more (by omega)⟩
    | true =>
      have HE : Hid (T3 ++ (⟨#[32]⟩ ++ (partyT x.p)) = joinT spT (opP4 x)) := by
        show T3 ++ (⟨#[32]⟩ ++ (partyT x.p)) = joinT spT (opP4 x)
        rw [HT3.out]
        unfold opP4
        exact (joinT_opt (opP3_ne x) (by rw [HKD.out]; exact HQ4.out)).symm
      have z4 := blk_cell HS3.out.o 4 _ rfl
      have z5 := blk_cell HS3.out.o 5 _ rfl
      have z6 := blk_cell HS3.out.o 6 _ rfl
      have z7 := blk_cell HS3.out.o 7 _ rfl
      have z8 := blk_cell HS3.out.o 8 _ rfl
      have z9 := blk_cell HS3.out.o 9 _ rfl
      have hr := rng4 HX.out HKD.out HQ4.out
      have sn : (partyT x.p).size ≤ 1000 := party_small HX.out HKD.out HQ4.out
      have s0 := HS3.out.sz
      have r1 := add_run ⟨#[32]⟩ (partyT x.p) (by show 1 ≤ _; omega) (by omega)
      have s1 : ((⟨#[32]⟩ : ByteArray) ++ (partyT x.p)).size ≤ 1001 := by rw [ByteArray.size_append]; show 1 + _ ≤ _; omega
      have r2 := add_run T3 (⟨#[32]⟩ ++ (partyT x.p)) (by omega) (by omega)
      have s2 : (T3 ++ (⟨#[32]⟩ ++ (partyT x.p))).size ≤ 2000 * 5 := by rw [ByteArray.size_append]; omega
      go_wp2_with fail
      refine (l11Party_any x.p _ hr).mono ?_
      rintro e w3 ⟨rfl, hb3⟩
      go_wp2
      go_meet
      exact ⟨_, rfl, HE.out, ⟨blk_below HS3.out.o hb3, after HS3.out.bel hb3, s2⟩⟩
  case rest =>
  obtain ⟨T4, rfl, HC⟩ := hcut
  have HT4 : Hid (T4 = joinT spT (opP4 x)) := HC.out.1
  have HS4 : Hid (XSt w wc #[.int .i64 x.kind, .string x.own, .int .i64 x.name, .slice alg x.lgn clg, .int .i64 x.pe, .int .i64 x.len, .int .i64 x.hei, .int .i64 x.cl, .bool x.all, .int .i64 x.be, .int .i64 x.unt, .int .i64 x.now] T4 5) := HC.out.2
  clear HC HS3 HT3
  obtain ⟨q5, hq5⟩ : ∃ q, q = fUntil k := ⟨_, rfl⟩
  have HQ5 : Hid (fUntil k = q5) := hq5.symm
  obtain ⟨wo, hwo⟩ : ∃ z, z = wc := ⟨_, rfl⟩
  subst hwo
  have y0 := blk_cell HS4.out.o 0 _ rfl
  have fo := flagU HX.out HKD.out
  rw [← hq5] at fo
  clear hq5
  go_upto_if 47 with fail
  go_cut [3] (fun v wx => ∃ T, v = .string T ∧ Hid (T = joinT spT (opP5 x) ∧ XSt w wx #[.int .i64 x.kind, .string x.own, .int .i64 x.name, .slice alg x.lgn clg, .int .i64 x.pe, .int .i64 x.len, .int .i64 x.hei, .int .i64 x.cl, .bool x.all, .int .i64 x.be, .int .i64 x.unt, .int .i64 x.now] T 6))
  case first =>
    clear fo y0
    cases q5 with
    | false =>
      go_wp2
      go_meet
      exact ⟨_, rfl, by rw [HT4.out]; unfold opP5; exact (joinT_non (by rw [HKD.out]; exact HQ5.out)).symm, HS4.out.more (by omega)⟩
    | true =>
      have HE : Hid (T4 ++ (⟨#[32]⟩ ++ (numT x.unt)) = joinT spT (opP5 x)) := by
        show T4 ++ (⟨#[32]⟩ ++ (numT x.unt)) = joinT spT (opP5 x)
        rw [HT4.out]
        unfold opP5
        exact (joinT_opt (opP4_ne x) (by rw [HKD.out]; exact HQ5.out)).symm
      have z10 := blk_cell HS4.out.o 10 _ rfl
      have hr := rng5 HX.out HKD.out HQ5.out
      have sn := numT_size (n := x.unt) (by omega) (by omega)
      have s0 := HS4.out.sz
      have r1 := add_run ⟨#[32]⟩ (numT x.unt) (by show 1 ≤ _; omega) (by omega)
      have s1 : ((⟨#[32]⟩ : ByteArray) ++ (numT x.unt)).size ≤ 1001 := by rw [ByteArray.size_append]; show 1 + _ ≤ _; omega
      have r2 := add_run T4 (⟨#[32]⟩ ++ (numT x.unt)) (by omega) (by omega)
      have s2 : (T4 ++ (⟨#[32]⟩ ++ (numT x.unt))).size ≤ 2000 * 6 := by rw [ByteArray.size_append]; omega
      go_wp2_with fail
      refine (l1Num_any (n := x.unt) (by omega) (by omega) _).mono ?_
      rintro e w3 ⟨rfl, hb3⟩
      go_wp2
      go_meet
      exact ⟨_, rfl, HE.out, ⟨blk_below HS4.out.o hb3, after HS4.out.bel hb3, s2⟩⟩
  case rest =>
  obtain ⟨T5, rfl, HC⟩ := hcut
  have HT5 : Hid (T5 = joinT spT (opP5 x)) := HC.out.1
  have HS5 : Hid (XSt w wc #[.int .i64 x.kind, .string x.own, .int .i64 x.name, .slice alg x.lgn clg, .int .i64 x.pe, .int .i64 x.len, .int .i64 x.hei, .int .i64 x.cl, .bool x.all, .int .i64 x.be, .int .i64 x.unt, .int .i64 x.now] T5 6) := HC.out.2
  clear HC HS4 HT4 fo y0
  obtain ⟨q6, hq6⟩ : ∃ q, q = fNow k := ⟨_, rfl⟩
  have HQ6 : Hid (fNow k = q6) := hq6.symm
  obtain ⟨wo, hwo⟩ : ∃ z, z = wc := ⟨_, rfl⟩
  subst hwo
  have y0 := blk_cell HS5.out.o 0 _ rfl
  have fo := flagW HX.out HKD.out
  rw [← hq6] at fo
  clear hq6
  go_upto_region 12 with fail
  go_cut [61] (fun v wx => v = .bool q6 ∧ wx = wo)
  case first =>
    by_cases h6 : x.kind = 6
    · have e6 : (x.kind == 6) = true := by rw [beq_iff_eq]; exact h6
      have E : Hid (true = q6) := by show true = q6; rw [← fo, e6]; rfl
      clear fo h6
      go_wp2
      go_meet
      exact ⟨congrArg Value.bool E.out, rfl⟩
    · have e6 : (x.kind == 6) = false := by rw [beq_eq_false_iff_ne]; exact h6
      by_cases h8 : x.kind = 8
      · have e8 : (x.kind == 8) = true := by rw [beq_iff_eq]; exact h8
        have E : Hid (true = q6) := by show true = q6; rw [← fo, e6, e8]; rfl
        clear fo h6 h8
        go_wp2
        go_meet
        exact ⟨congrArg Value.bool E.out, rfl⟩
      · have e8 : (x.kind == 8) = false := by rw [beq_eq_false_iff_ne]; exact h8
        have E : Hid (false = q6) := by show false = q6; rw [← fo, e6, e8]; rfl
        clear fo h6 h8
        go_wp2
        go_meet
        exact ⟨congrArg Value.bool E.out, rfl⟩
  case rest =>
  obtain ⟨rfl, hwx⟩ := hcut
  have hwx := hwx.symm
  subst hwx
  clear y0 fo
  go_upto_if 61 with fail
  go_cut [3] (fun v wx => ∃ T, v = .string T ∧ Hid (T = joinT spT (opP6 x) ∧ XSt w wx #[.int .i64 x.kind, .string x.own, .int .i64 x.name, .slice alg x.lgn clg, .int .i64 x.pe, .int .i64 x.len, .int .i64 x.hei, .int .i64 x.cl, .bool x.all, .int .i64 x.be, .int .i64 x.unt, .int .i64 x.now] T 7))
  case first =>
    cases q6 with
    | false =>
      go_wp2
      go_meet
      exact ⟨_, rfl, by rw [HT5.out]; unfold opP6; exact (joinT_non (by rw [HKD.out]; exact HQ6.out)).symm, HS5.out.more (by omega)⟩
    | true =>
      have HE : Hid (T5 ++ (⟨#[32]⟩ ++ (numT x.now)) = joinT spT (opP6 x)) := by
        show T5 ++ (⟨#[32]⟩ ++ (numT x.now)) = joinT spT (opP6 x)
        rw [HT5.out]
        unfold opP6
        exact (joinT_opt (opP5_ne x) (by rw [HKD.out]; exact HQ6.out)).symm
      have z11 := blk_cell HS5.out.o 11 _ rfl
      have hr := rng6 HX.out HKD.out HQ6.out
      have sn := numT_size (n := x.now) (by omega) (by omega)
      have s0 := HS5.out.sz
      have r1 := add_run ⟨#[32]⟩ (numT x.now) (by show 1 ≤ _; omega) (by omega)
      have s1 : ((⟨#[32]⟩ : ByteArray) ++ (numT x.now)).size ≤ 1001 := by rw [ByteArray.size_append]; show 1 + _ ≤ _; omega
      have r2 := add_run T5 (⟨#[32]⟩ ++ (numT x.now)) (by omega) (by omega)
      have s2 : (T5 ++ (⟨#[32]⟩ ++ (numT x.now))).size ≤ 2000 * 7 := by rw [ByteArray.size_append]; omega
      go_wp2_with fail
      refine (l1Num_any (n := x.now) (by omega) (by omega) _).mono ?_
      rintro e w3 ⟨rfl, hb3⟩
      go_wp2
      go_meet
      exact ⟨_, rfl, HE.out, ⟨blk_below HS5.out.o hb3, after HS5.out.bel hb3, s2⟩⟩
  case rest =>
  obtain ⟨T6, rfl, HC⟩ := hcut
  have HT6 : Hid (T6 = joinT spT (opP6 x)) := HC.out.1
  have HS6 : Hid (XSt w wc #[.int .i64 x.kind, .string x.own, .int .i64 x.name, .slice alg x.lgn clg, .int .i64 x.pe, .int .i64 x.len, .int .i64 x.hei, .int .i64 x.cl, .bool x.all, .int .i64 x.be, .int .i64 x.unt, .int .i64 x.now] T6 7) := HC.out.2
  clear HC HS5 HT5
  go_wp2
  go_ret
  exact ⟨by rw [HT6.out]; rfl, HS6.out.bel⟩

end Go.Proofs.YtfallpinmhbemaaGreatDoor

namespace Go.Proofs.YtfallpinmhbemaaGreatDoor
open Go.RowKit

set_option maxHeartbeats 1600000 in
set_option maxRecDepth 100000 in
theorem specText_any (cs : List Value) (x : OpD) (w : World) (hs : x.own.size ≤ 1000000000000000) (h : OpD.Is w cs x) (hn : x.lgn ≤ 1000000000) :
    Calls Tryz.prog 6 #[.agg cs.toArray] w fun e w' => e = .returned (.tuple #[.string (textOf x), .bool (hasT x)]) ∧ Below w.heap.size w w' := by
  have HI : Hid (OpD.Is w cs x) := h
  obtain ⟨alg, clg, rfl, hlg, _⟩ := h
  have HLG : Hid (IntsAt w alg x.lgn x.lg) := hlg
  have hb0 : Below w.heap.size w (w.alloc (.cells #[.int .i64 x.kind, .string x.own, .int .i64 x.name, .slice alg x.lgn clg, .int .i64 x.pe, .int .i64 x.len, .int .i64 x.hei, .int .i64 x.cl, .bool x.all, .int .i64 x.be, .int .i64 x.unt, .int .i64 x.now] 27)) := push (Below.refl _ _) _
  have b0 := heap_alloc_new w (.cells #[.int .i64 x.kind, .string x.own, .int .i64 x.name, .slice alg x.lgn clg, .int .i64 x.pe, .int .i64 x.len, .int .i64 x.hei, .int .i64 x.cl, .bool x.all, .int .i64 x.be, .int .i64 x.unt, .int .i64 x.now] 27)
  clear hlg
  go_enter Tryz.func6, Tryz.ntmps6
  go_upto_region 1 with fail
  generalize w.alloc (.cells #[.int .i64 x.kind, .string x.own, .int .i64 x.name, .slice alg x.lgn clg, .int .i64 x.pe, .int .i64 x.len, .int .i64 x.hei, .int .i64 x.cl, .bool x.all, .int .i64 x.be, .int .i64 x.unt, .int .i64 x.now] 27) = W at hb0 b0 ⊢
  have y0 := blk_cell b0 0 _ rfl
  have y1 := blk_cell b0 1 _ rfl
  have y2 := blk_cell b0 2 _ rfl
  have y3 := blk_cell b0 3 _ rfl
  have y4 := blk_cell b0 4 _ rfl
  have y5 := blk_cell b0 5 _ rfl
  have y6 := blk_cell b0 6 _ rfl
  have y7 := blk_cell b0 7 _ rfl
  have y8 := blk_cell b0 8 _ rfl
  have y9 := blk_cell b0 9 _ rfl
  have y10 := blk_cell b0 10 _ rfl
  have y11 := blk_cell b0 11 _ rfl
  go_wp2_with fail
  obtain ⟨q, hq⟩ : ∃ q, q = decide (OpOk x) := ⟨_, rfl⟩
  have HQ : Hid (q = true ↔ OpOk x) := by show q = true ↔ OpOk x; rw [hq, decide_eq_true_eq]
  have cq := specOp_any [.int .i64 x.kind, .string x.own, .int .i64 x.name, .slice alg x.lgn clg, .int .i64 x.pe, .int .i64 x.len, .int .i64 x.hei, .int .i64 x.cl, .bool x.all, .int .i64 x.be, .int .i64 x.unt, .int .i64 x.now] x W hs (HI.out.below hb0)
  rw [← hq] at cq
  clear hq
  refine cq.mono ?_
  clear cq
  rintro e w2 ⟨rfl, hb2⟩
  have b2 := blk_below b0 hb2
  have hB2 := after hb0 hb2
  clear y0 y1 y2 y3 y4 y5 y6 y7 y8 y9 y10 y11 b0 hb0 hb2
  cases q with
  | false =>
    have hno : ¬ HasText x := fun h => by have := HQ.out.2 h.1; cases this
    have HR : Hid (textOf x = ⟨#[]⟩ ∧ hasT x = false) := textOf_not hno
    clear hno
    go_wp2
    exact bodyPost_ret (v := .tuple #[.string ⟨#[]⟩, .bool false]) (by simp [results, Tryz.results6, go_sem]) rfl ⟨by rw [HR.out.1, HR.out.2], hB2⟩
  | true =>
    have HOK : Hid (OpOk x) := by first | exact HQ.out.1 rfl | exact HQ.out.1 trivial
    have z3 := blk_cell b2 3 _ rfl
    clear HQ
    go_wp2
    go_loopw [5, 12] (fun _ vi wr => ∃ k : Nat, k ≤ x.lgn ∧ vi = .int .i64 k ∧ Hid (∀ i, i < k → In (x.lg i) 0 99999) ∧ Hid (Below w2.heap.size w2 wr)) (fun _ vi _ => x.lgn - (intOf vi).toNat)
    case atStart => exact ⟨0, Nat.zero_le _, rfl, fun i hi => by omega, Below.refl _ _⟩
    case round =>
      clear z3
      obtain ⟨k, hk, rfl, HA, HB⟩ := hrel
      by_cases hlt : k < x.lgn
      · obtain ⟨b, off, rfl, hc⟩ := HLG.out.below hB2 k hlt
        have hc' : wr.cell? ⟨b, off + k, none⟩ = some (.int .i64 (x.lg k)) := (HB.out.cell (World.block_lt_of_cell? w2 _ hc)).trans hc
        clear hc
        by_cases hin : In (x.lg k) 0 99999
        · go_wp2_with fail
          refine (l1In_yes (x.lg k) 0 99999 _ hin.1 hin.2).mono ?_
          rintro e w3 ⟨rfl, hb3⟩
          go_wp2
          go_roundw
          case rel => exact ⟨k + 1, by omega, by go_num, fun i hi => by
              by_cases e : i = k
              · rw [e]; exact hin
              · exact HA.out i (by omega), hb3 ▸ HB.out⟩
          case measure => simp [intOf]; omega
        · have hno : ¬ HasText x := fun h => hin (h.2 k hlt)
          have HR : Hid (textOf x = ⟨#[]⟩ ∧ hasT x = false) := textOf_not hno
          clear hno
          go_wp2_with fail
          refine (l1In_no (x.lg k) 0 99999 _ hin).mono ?_
          rintro e w3 ⟨rfl, hb3⟩
          have hB3 : Below w.heap.size w w3 := hb3 ▸ after hB2 HB.out
          clear hb3
          go_wp2
          exact bodyPost_ret (v := .tuple #[.string ⟨#[]⟩, .bool false]) (by simp [results, Tryz.results6, go_sem]) rfl ⟨by rw [HR.out.1, HR.out.2], hB3⟩
      · obtain rfl : x.lgn = k := by omega
        have HX : Hid (HasText x) := ⟨HOK.out, HA.out⟩
        have HR : Hid (textOf x = opT x ∧ hasT x = true) := textOf_yes HX.out
        have b3 := blk_below b2 HB.out
        have hB3 := after hB2 HB.out
        have y0 := blk_cell b3 0 _ rfl
        have y1 := blk_cell b3 1 _ rfl
        have y2 := blk_cell b3 2 _ rfl
        have y3 := blk_cell b3 3 _ rfl
        have y4 := blk_cell b3 4 _ rfl
        have y5 := blk_cell b3 5 _ rfl
        have y6 := blk_cell b3 6 _ rfl
        have y7 := blk_cell b3 7 _ rfl
        have y8 := blk_cell b3 8 _ rfl
        have y9 := blk_cell b3 9 _ rfl
        have y10 := blk_cell b3 10 _ rfl
        have y11 := blk_cell b3 11 _ rfl
        go_wp2_with fail
        refine (l11Op_any x alg clg _ HX.out (HLG.out.below hB3)).mono ?_
        rintro e w4 ⟨rfl, hb4⟩
        clear y0 y1 y2 y3 y4 y5 y6 y7 y8 y9 y10 y11
        go_wp2
        exact bodyPost_ret (v := .tuple #[.string (opT x), .bool true]) (by simp [results, Tryz.results6, go_sem]) rfl ⟨by rw [HR.out.1, HR.out.2], after hB3 hb4⟩

end Go.Proofs.YtfallpinmhbemaaGreatDoor

namespace Go.Proofs.YtfallpinmhbemaaGreatDoor
open Go.RowKit

def pairT (a b : Int) : ByteArray := numT a ++ ⟨#[47]⟩ ++ numT b
/-- Pairs with a comma between, a stroke where there are none. -/
def pairsT (p : Pairs) : ByteArray := if p.n = 0 then ⟨#[45]⟩ else joinT coT ((List.range p.n).map (fun i => pairT (p.A i) (p.B i)))
theorem pairT_size {a b : Int} (ha : In a 0 1000000) (hb : In b 0 1000000) : (pairT a b).size ≤ 201 := by
  unfold In at ha hb
  have s1 := numT_size (n := a) (by omega) (by omega)
  have s2 := numT_size (n := b) (by omega) (by omega)
  unfold pairT
  rw [ByteArray.size_append, ByteArray.size_append]
  show _ + 1 + _ ≤ 201
  omega
def SmallP (p : Pairs) : Prop := p.n ≤ 6 ∧ ∀ i, i < p.n → In (p.A i) 0 1000000 ∧ In (p.B i) 0 1000000
theorem pairs_joined {p : Pairs} (h : SmallP p) : (joinT coT ((List.range p.n).map (fun i => pairT (p.A i) (p.B i)))).size ≤ 6006 := by
  have := joinT_le coT (by show 1 ≤ 1; omega) ((List.range p.n).map (fun i => pairT (p.A i) (p.B i))) (fun q hq => by
    obtain ⟨i, hi, rfl⟩ := List.mem_map.1 hq
    have h3 := h.2 i (by simpa using hi)
    have := pairT_size h3.1 h3.2
    omega)
  rw [List.length_map, List.length_range] at this
  have := h.1
  omega
theorem pairsT_size {p : Pairs} (h : SmallP p) : (pairsT p).size ≤ 6006 := by
  unfold pairsT
  split
  · show 1 ≤ 6006; omega
  · exact pairs_joined h

theorem laneText_any (a b : Int) (w : World) (ha : In a 0 1000000) (hb : In b 0 1000000) (hP : PowAt w) :
    Calls Tryz.prog 65 #[.agg #[.int .i64 a, .int .i64 b]] w fun e w' => e = .returned (.string (pairT a b)) ∧ Below w.heap.size w w' := by
  have hb0 : Below w.heap.size w (w.alloc (.cells #[.int .i64 a, .int .i64 b] 106)) := push (Below.refl _ _) _
  have b0 := heap_alloc_new w (.cells #[.int .i64 a, .int .i64 b] 106)
  have HP : Hid (PowAt w) := hP
  clear hP
  go_enter Tryz.func65, Tryz.ntmps65
  go_upto_region 1 with fail
  generalize w.alloc (.cells #[.int .i64 a, .int .i64 b] 106) = W at hb0 b0 ⊢
  have y0 := blk_cell b0 0 _ rfl
  have y1 := blk_cell b0 1 _ rfl
  go_wp2_with fail
  refine (pairText_any a b _ ha hb (HP.out.below hb0)).mono ?_
  rintro e w2 ⟨rfl, hb2⟩
  go_wp2
  go_ret
  exact ⟨rfl, after hb0 hb2⟩

set_option maxHeartbeats 800000 in
theorem listLane_any (ao : Option Addr) (cap : Nat) (p : Pairs) (w : World) (hp : SmallP p) (hz : PairsAt w ao p) (hP : PowAt w) :
    Calls Tryz.prog 64 #[.slice ao p.n cap, .func (.func 65) #[] #[]] w fun e w' => e = .returned (.string (pairsT p)) ∧ Below w.heap.size w w' := by
  have HN : Hid (SmallP p) := hp
  have hn6 := hp.1
  have HZ : Hid (PairsAt w ao p) := hz
  have HP : Hid (PowAt w) := hP
  obtain ⟨n, hn⟩ : ∃ n, n = p.n := ⟨_, rfl⟩
  have HE : Hid (p.n = n) := hn.symm
  rw [← hn] at hn6 ⊢
  clear hP hp hz hn
  by_cases h0 : n = 0
  · have d0 : ((n : Int) == 0) = true := by rw [beq_iff_eq]; omega
    have ER : Hid ((⟨#[45]⟩ : ByteArray) = pairsT p) := by show _ = pairsT p; unfold pairsT; rw [if_pos (by rw [HE.out]; exact h0)]
    clear h0
    go_enter Tryz.func64, Tryz.ntmps64
    go_wp2
    go_ret
    exact ⟨congrArg (fun z => Ending.returned (Value.string z)) ER.out, Below.refl _ _⟩
  have hmk := run_make_row' (P := Tryz.prog) 46 9 (.string ⟨#[]⟩) 16 Tryz.underlying46 Tryz.infoText rfl .i64 .i64 n (by omega) (by omega)
  have d0 : ((n : Int) == 0) = false := by rw [beq_eq_false_iff_ne]; omega
  go_enter Tryz.func64, Tryz.ntmps64
  go_wp2
  go_loopw [6, 7, 16] (fun _ _ i wr => ∃ k : Nat, k ≤ n ∧ i = .int .i64 k ∧ Hid (wr.rowIs w.heap.size 9 n (fun j => if j < k then .string (pairT (p.A j) (p.B j)) else .string ⟨#[]⟩)) ∧ Below w.heap.size w wr)
    (fun _ _ i _ => n - (intOf i).toNat)
  case atStart => exact ⟨0, Nat.zero_le _, rfl, (World.rowIs_made _ _ _ _).congr (by simp), (Below.refl _ _).alloc (Nat.le_refl _) _⟩
  case round =>
    obtain ⟨k, hk, rfl, HROW, hbel⟩ := hrel
    by_cases hlt : k < n
    · obtain ⟨b, off, rfl, hc, hd⟩ := HZ.out k (by rw [HE.out]; exact hlt)
      have hc' : wr.cell? ⟨b, off + k * 2, none⟩ = some (.int .i64 (p.A k)) := (hbel.cell (World.block_lt_of_cell? w _ hc)).trans hc
      have hd' : wr.cell? ⟨b, off + k * 2 + 1, none⟩ = some (.int .i64 (p.B k)) := (hbel.cell (World.block_lt_of_cell? w _ hd)).trans hd
      have hik := HN.out.2 k (by rw [HE.out]; exact hlt)
      have HIK : Hid (In (p.A k) 0 1000000 ∧ In (p.B k) 0 1000000) := hik
      clear hc hd hik
      have hb1 : Below w.heap.size w (wr.alloc (.cells #[.int .i64 (p.A k), .int .i64 (p.B k)] 106)) := push hbel _
      have b1 := heap_alloc_new wr (.cells #[.int .i64 (p.A k), .int .i64 (p.B k)] 106)
      have HR1 : Hid _ := row_below HROW.out (push (Below.refl _ _) (.cells #[.int .i64 (p.A k), .int .i64 (p.B k)] 106))
      go_upto_region 7 with fail
      generalize wr.alloc (.cells #[.int .i64 (p.A k), .int .i64 (p.B k)] 106) = W at hb1 b1 HR1 ⊢
      have y0 := blk_cell b1 0 _ rfl
      have y1 := blk_cell b1 1 _ rfl
      clear hc' hd' HROW
      go_wp2_with fail
      refine (laneText_any (p.A k) (p.B k) _ HIK.out.1 HIK.out.2 (HP.out.below hb1)).mono ?_
      rintro e w2 ⟨rfl, hb2⟩
      have hrow2 := row_below HR1.out hb2
      have hbel2 := after hb1 hb2
      have ho := hrow2.cell (i := k) hlt
      have hf := hrow2.frozen k
      simp only [Nat.lt_irrefl, if_false] at ho
      have HR2 : Hid (w2.rowIs w.heap.size 9 n (fun j => if j < k then .string (pairT (p.A j) (p.B j)) else .string ⟨#[]⟩)) := hrow2
      clear HR1 hbel hb2 hb1 b1 y0 y1 hrow2
      go_wp2
      go_roundw
      case rel => exact ⟨k + 1, by omega, by go_num, (World.rowIs.set HR2.out k _).congr (fun j hj => fill_step (fun j => Value.string (pairT (p.A j) (p.B j))) _ k j), hbel2.setCell (Nat.le_refl _) _⟩
      case measure => simp [intOf]; omega
    · have hfull : wr.rowIs w.heap.size 9 n (fun j => .string (pairT (p.A j) (p.B j))) := HROW.out.congr (fun j hj => by rw [if_pos (by omega)])
      have HF : Hid (wr.rowIs w.heap.size 9 n (fun j => .string (pairT (p.A j) (p.B j)))) := hfull
      have hsz := pairs_joined HN.out
      rw [HE.out] at hsz
      have ER : Hid (joinT coT ((List.range n).map (fun i => pairT (p.A i) (p.B i))) = pairsT p) := by show _ = pairsT p; unfold pairsT; rw [HE.out, if_neg h0]
      clear HROW hfull
      go_wp2_with fail
      refine (join_row coT w.heap.size n (fun i => pairT (p.A i) (p.B i)) _ HF.out (by omega) (by omega) (by omega)).mono ?_
      rintro e w3 ⟨rfl, hb3⟩
      go_wp2
      go_ret
      exact ⟨congrArg (fun z => Ending.returned (Value.string z)) ER.out, after hbel hb3⟩

theorem cabinText_any (a b : Int) (w : World) (ha : In a 0 1000000) (hb : In b 0 1000000) (hP : PowAt w) :
    Calls Tryz.prog 67 #[.agg #[.int .i64 a, .int .i64 b]] w fun e w' => e = .returned (.string (pairT a b)) ∧ Below w.heap.size w w' := by
  have hb0 : Below w.heap.size w (w.alloc (.cells #[.int .i64 a, .int .i64 b] 110)) := push (Below.refl _ _) _
  have b0 := heap_alloc_new w (.cells #[.int .i64 a, .int .i64 b] 110)
  have HP : Hid (PowAt w) := hP
  clear hP
  go_enter Tryz.func67, Tryz.ntmps67
  go_upto_region 1 with fail
  generalize w.alloc (.cells #[.int .i64 a, .int .i64 b] 110) = W at hb0 b0 ⊢
  have y0 := blk_cell b0 0 _ rfl
  have y1 := blk_cell b0 1 _ rfl
  go_wp2_with fail
  refine (pairText_any a b _ ha hb (HP.out.below hb0)).mono ?_
  rintro e w2 ⟨rfl, hb2⟩
  go_wp2
  go_ret
  exact ⟨rfl, after hb0 hb2⟩

set_option maxHeartbeats 800000 in
theorem listCabin_any (ao : Option Addr) (cap : Nat) (p : Pairs) (w : World) (hp : SmallP p) (hz : PairsAt w ao p) (hP : PowAt w) :
    Calls Tryz.prog 66 #[.slice ao p.n cap, .func (.func 67) #[] #[]] w fun e w' => e = .returned (.string (pairsT p)) ∧ Below w.heap.size w w' := by
  have HN : Hid (SmallP p) := hp
  have hn6 := hp.1
  have HZ : Hid (PairsAt w ao p) := hz
  have HP : Hid (PowAt w) := hP
  obtain ⟨n, hn⟩ : ∃ n, n = p.n := ⟨_, rfl⟩
  have HE : Hid (p.n = n) := hn.symm
  rw [← hn] at hn6 ⊢
  clear hP hp hz hn
  by_cases h0 : n = 0
  · have d0 : ((n : Int) == 0) = true := by rw [beq_iff_eq]; omega
    have ER : Hid ((⟨#[45]⟩ : ByteArray) = pairsT p) := by show _ = pairsT p; unfold pairsT; rw [if_pos (by rw [HE.out]; exact h0)]
    clear h0
    go_enter Tryz.func66, Tryz.ntmps66
    go_wp2
    go_ret
    exact ⟨congrArg (fun z => Ending.returned (Value.string z)) ER.out, Below.refl _ _⟩
  have hmk := run_make_row' (P := Tryz.prog) 46 9 (.string ⟨#[]⟩) 16 Tryz.underlying46 Tryz.infoText rfl .i64 .i64 n (by omega) (by omega)
  have d0 : ((n : Int) == 0) = false := by rw [beq_eq_false_iff_ne]; omega
  go_enter Tryz.func66, Tryz.ntmps66
  go_wp2
  go_loopw [6, 7, 16] (fun _ _ i wr => ∃ k : Nat, k ≤ n ∧ i = .int .i64 k ∧ Hid (wr.rowIs w.heap.size 9 n (fun j => if j < k then .string (pairT (p.A j) (p.B j)) else .string ⟨#[]⟩)) ∧ Below w.heap.size w wr)
    (fun _ _ i _ => n - (intOf i).toNat)
  case atStart => exact ⟨0, Nat.zero_le _, rfl, (World.rowIs_made _ _ _ _).congr (by simp), (Below.refl _ _).alloc (Nat.le_refl _) _⟩
  case round =>
    obtain ⟨k, hk, rfl, HROW, hbel⟩ := hrel
    by_cases hlt : k < n
    · obtain ⟨b, off, rfl, hc, hd⟩ := HZ.out k (by rw [HE.out]; exact hlt)
      have hc' : wr.cell? ⟨b, off + k * 2, none⟩ = some (.int .i64 (p.A k)) := (hbel.cell (World.block_lt_of_cell? w _ hc)).trans hc
      have hd' : wr.cell? ⟨b, off + k * 2 + 1, none⟩ = some (.int .i64 (p.B k)) := (hbel.cell (World.block_lt_of_cell? w _ hd)).trans hd
      have hik := HN.out.2 k (by rw [HE.out]; exact hlt)
      have HIK : Hid (In (p.A k) 0 1000000 ∧ In (p.B k) 0 1000000) := hik
      clear hc hd hik
      have hb1 : Below w.heap.size w (wr.alloc (.cells #[.int .i64 (p.A k), .int .i64 (p.B k)] 110)) := push hbel _
      have b1 := heap_alloc_new wr (.cells #[.int .i64 (p.A k), .int .i64 (p.B k)] 110)
      have HR1 : Hid _ := row_below HROW.out (push (Below.refl _ _) (.cells #[.int .i64 (p.A k), .int .i64 (p.B k)] 110))
      go_upto_region 7 with fail
      generalize wr.alloc (.cells #[.int .i64 (p.A k), .int .i64 (p.B k)] 110) = W at hb1 b1 HR1 ⊢
      have y0 := blk_cell b1 0 _ rfl
      have y1 := blk_cell b1 1 _ rfl
      clear hc' hd' HROW
      go_wp2_with fail
      refine (cabinText_any (p.A k) (p.B k) _ HIK.out.1 HIK.out.2 (HP.out.below hb1)).mono ?_
      rintro e w2 ⟨rfl, hb2⟩
      have hrow2 := row_below HR1.out hb2
      have hbel2 := after hb1 hb2
      have ho := hrow2.cell (i := k) hlt
      have hf := hrow2.frozen k
      simp only [Nat.lt_irrefl, if_false] at ho
      have HR2 : Hid (w2.rowIs w.heap.size 9 n (fun j => if j < k then .string (pairT (p.A j) (p.B j)) else .string ⟨#[]⟩)) := hrow2
      clear HR1 hbel hb2 hb1 b1 y0 y1 hrow2
      go_wp2
      go_roundw
      case rel => exact ⟨k + 1, by omega, by go_num, (World.rowIs.set HR2.out k _).congr (fun j hj => fill_step (fun j => Value.string (pairT (p.A j) (p.B j))) _ k j), hbel2.setCell (Nat.le_refl _) _⟩
      case measure => simp [intOf]; omega
    · have hfull : wr.rowIs w.heap.size 9 n (fun j => .string (pairT (p.A j) (p.B j))) := HROW.out.congr (fun j hj => by rw [if_pos (by omega)])
      have HF : Hid (wr.rowIs w.heap.size 9 n (fun j => .string (pairT (p.A j) (p.B j)))) := hfull
      have hsz := pairs_joined HN.out
      rw [HE.out] at hsz
      have ER : Hid (joinT coT ((List.range n).map (fun i => pairT (p.A i) (p.B i))) = pairsT p) := by show _ = pairsT p; unfold pairsT; rw [HE.out, if_neg h0]
      clear HROW hfull
      go_wp2_with fail
      refine (join_row coT w.heap.size n (fun i => pairT (p.A i) (p.B i)) _ HF.out (by omega) (by omega) (by omega)).mono ?_
      rintro e w3 ⟨rfl, hb3⟩
      go_wp2
      go_ret
      exact ⟨congrArg (fun z => Ending.returned (Value.string z)) ER.out, after hbel hb3⟩

end Go.Proofs.YtfallpinmhbemaaGreatDoor

namespace Go.Proofs.YtfallpinmhbemaaGreatDoor
open Go.RowKit

theorem sailingId_is (x : Int) (w : World) :
    Calls Tryz.prog 60 #[.int .i64 x] w fun e w' => e = .returned (.bool (decide (In x 1 99))) ∧ w' = w := by
  go_enter Tryz.func60, Tryz.ntmps60
  go_wp2_with (first | (go_at_call 31; refine (within_is _ _ _ _).mono ?_; rintro e w' ⟨rfl, rfl⟩))
  go_ret
  exact ⟨rfl, rfl⟩

set_option maxHeartbeats 400000 in
theorem unlikeNames_is (a b : ByteArray) (w : World) (ha : a.size ≤ 1000000000000000) (hb : b.size ≤ 1000000000000000) :
    Calls Tryz.prog 61 #[.string a, .string b] w fun e w' => e = .returned (.bool (decide (Unlike a b))) ∧ w' = w := by
  obtain ⟨c, hc⟩ : ∃ c, c = decide (Unlike a b) := ⟨_, rfl⟩
  rw [← hc]
  have HC : Hid (c = decide (Unlike a b)) := hc
  clear hc
  by_cases n1 : IsName a
  · have d1 : decide (IsName a) = true := decide_eq_true n1
    by_cases n2 : IsName b
    · have d2 : decide (IsName b) = true := decide_eq_true n2
      by_cases n3 : a = b
      · subst n3
        have e3 : (a.toList == a.toList) = true := bytes_eq.2 rfl
        have HN : Hid (¬ Unlike a a) := fun h => h.2.2 rfl
        clear n1 n2
        go_enter Tryz.func61, Tryz.ntmps61
        go_wp2_with (first | (go_at_call 33; refine (isName_is _ _ ha).mono ?_; rintro e w' ⟨rfl, hw'⟩; have hw' := hw'.symm; subst hw'))
        go_ret
        exact ⟨by rw [HC.out, decide_eq_false HN.out]; rfl, rfl⟩
      · have e3 : (a.toList == b.toList) = false := bytes_ne.2 n3
        have HN : Hid (Unlike a b) := ⟨n1, n2, n3⟩
        clear n1 n2 n3
        go_enter Tryz.func61, Tryz.ntmps61
        go_wp2_with fail
        refine (isName_is _ _ ha).mono ?_
        rintro e w' ⟨rfl, hw'⟩
        have hw' := hw'.symm
        subst hw'
        go_wp2_with fail
        refine (isName_is _ _ hb).mono ?_
        rintro e w' ⟨rfl, hw'⟩
        have hw' := hw'.symm
        subst hw'
        go_wp2
        go_ret
        exact ⟨by rw [HC.out, decide_eq_true HN.out]; rfl, rfl⟩
    · have d2 : decide (IsName b) = false := decide_eq_false n2
      have HN : Hid (¬ Unlike a b) := fun h => n2 h.2.1
      clear n1 n2
      go_enter Tryz.func61, Tryz.ntmps61
      go_wp2_with fail
      refine (isName_is _ _ ha).mono ?_
      rintro e w' ⟨rfl, hw'⟩
      have hw' := hw'.symm
      subst hw'
      go_wp2_with fail
      refine (isName_is _ _ hb).mono ?_
      rintro e w' ⟨rfl, hw'⟩
      have hw' := hw'.symm
      subst hw'
      go_wp2
      go_ret
      exact ⟨by rw [HC.out, decide_eq_false HN.out]; rfl, rfl⟩
  · have d1 : decide (IsName a) = false := decide_eq_false n1
    have HN : Hid (¬ Unlike a b) := fun h => n1 h.1
    clear n1
    go_enter Tryz.func61, Tryz.ntmps61
    go_wp2_with fail
    refine (isName_is _ _ ha).mono ?_
    rintro e w' ⟨rfl, hw'⟩
    have hw' := hw'.symm
    subst hw'
    go_wp2
    go_ret
    exact ⟨by rw [HC.out, decide_eq_false HN.out]; rfl, rfl⟩

end Go.Proofs.YtfallpinmhbemaaGreatDoor

namespace Go.Proofs.YtfallpinmhbemaaGreatDoor
open Go.RowKit

set_option maxHeartbeats 800000 in
set_option maxRecDepth 100000 in
theorem goodLanes_any (ao : Option Addr) (n c : Nat) (p : Pairs) (w : World) (hl : p.n = n) (hn : n ≤ 1048576) (hz : PairsAt w ao p) :
    Calls Tryz.prog 62 #[.slice ao n c] w fun e w' => SaysIf (GoodPairs p 4 1 5000 100 500) e ∧ Below w.heap.size w w' := by
  have HL : Hid (p.n = n) := hl
  clear hl
  by_cases h0 : n ≤ 4
  · have d0 : decide (4 < n) = false := by simp; omega
    go_enter Tryz.func62, Tryz.ntmps62
    go_wp2
    go_loopw [4, 10] (fun _ i wr => ∃ k : Nat, k ≤ n ∧ i = .int .i64 k ∧ (∀ j, j < k → In (p.A j) 1 5000 ∧ In (p.B j) 100 500) ∧ Below w.heap.size w wr) (fun _ i _ => n - (intOf i).toNat)
    case atStart => exact ⟨0, Nat.zero_le _, rfl, fun j hj => by omega, Below.refl _ _⟩
    case round =>
      obtain ⟨k, hk, rfl, hall, hbel⟩ := hrel
      have HA : Hid (∀ j, j < k → In (p.A j) 1 5000 ∧ In (p.B j) 100 500) := hall
      clear hall d0
      by_cases hlt : k < n
      · obtain ⟨b, off, rfl, h1, h2⟩ := hz k (by rw [HL.out]; omega)
        have hb := World.block_lt_of_cell? w _ h1
        have c1 := (hbel.cell (p := ⟨b, off + k * 2, none⟩) hb).trans h1
        have c2 := (hbel.cell (p := ⟨b, off + k * 2 + 1, none⟩) hb).trans h2
        clear h1 h2
        by_cases g1 : In (p.A k) 1 5000
        · have e1 : decide (In (p.A k) 1 5000) = true := decide_eq_true g1
          by_cases g2 : In (p.B k) 100 500
          · have e2 : decide (In (p.B k) 100 500) = true := decide_eq_true g2
            have HK : Hid (In (p.A k) 1 5000 ∧ In (p.B k) 100 500) := ⟨g1, g2⟩
            clear g1 g2
            go_wp2_with (first | (go_at_call 31; refine (within_is _ _ _ _).mono ?_; rintro e w' ⟨rfl, hw'⟩; have hw' := hw'.symm; subst hw'))
            go_roundw
            case rel => exact ⟨k + 1, by omega, by go_num, fun j hj => by
              by_cases e : j = k
              · subst e; exact HK.out
              · exact HA.out j (by omega), push hbel _⟩
            case measure => simp [intOf]; omega
          · have e2 : decide (In (p.B k) 100 500) = false := decide_eq_false g2
            have HK : Hid (¬ In (p.B k) 100 500) := g2
            clear g1 g2
            go_wp2_with (first | (go_at_call 31; refine (within_is _ _ _ _).mono ?_; rintro e w' ⟨rfl, hw'⟩; have hw' := hw'.symm; subst hw'))
            go_ret
            exact ⟨says_no (fun h => HK.out (h.2 k (by rw [HL.out]; exact hlt)).2), push hbel _⟩
        · have e1 : decide (In (p.A k) 1 5000) = false := decide_eq_false g1
          have HK : Hid (¬ In (p.A k) 1 5000) := g1
          clear g1
          go_wp2_with (first | (go_at_call 31; refine (within_is _ _ _ _).mono ?_; rintro e w' ⟨rfl, hw'⟩; have hw' := hw'.symm; subst hw'))
          go_ret
          exact ⟨says_no (fun h => HK.out (h.2 k (by rw [HL.out]; exact hlt)).1), push hbel _⟩
      · obtain rfl : k = n := by omega
        go_wp2
        go_ret
        exact ⟨says_yes ⟨by rw [HL.out]; exact h0, fun j hj => HA.out j (by rw [HL.out] at hj; exact hj)⟩, hbel⟩
  · have d0 : decide (4 < n) = true := by simp; omega
    go_enter Tryz.func62, Tryz.ntmps62
    go_wp2
    go_ret
    exact ⟨says_no (fun h => by have := h.1; rw [HL.out] at this; exact h0 this), Below.refl _ _⟩

end Go.Proofs.YtfallpinmhbemaaGreatDoor

/-
  OWN TEXT: OpI, KitAt.
-/
import Derived.Deep.DeepCutAuto
import Derived.Test.YtfbooamjddnagaaDoorB08
import Derived.Test.YtfbooamjddnagaaDoorB17
import Derived.Test.YtfbooamjddnagaaDoorB19
import Derived.Test.YtfbooamjddnagaaDoorB06
import Derived.Test.YtfbooamjddnagaaDoorB00
namespace Go.Proofs.YtfbooamjddnagaaDoor
open Go.RowKit

set_option maxHeartbeats 800000 in
theorem party_eql (pe len hei cl : Int) (all : Bool) (be : Int) (w : World) :
    (binOp .eql 30 (.agg #[.int .i64 pe, .int .i64 len, .int .i64 hei, .int .i64 cl, .bool all, .int .i64 be]) (.agg #[.int .i64 0, .int .i64 0, .int .i64 0, .int .i64 0, .bool false, .int .i64 0])).run Tryd.prog w = .ok (.bool (PZ pe len hei cl all be)) w := by
  unfold PZ NoParty
  by_cases h1 : pe = 0
  · subst h1
    by_cases h2 : len = 0
    · subst h2
      by_cases h3 : hei = 0
      · subst h3
        by_cases h4 : cl = 0
        · subst h4
          cases all with
          | false =>
            by_cases h5 : be = 0
            · subst h5
              go_simp
            · go_simp
          | true => go_simp
        · go_simp
      · go_simp
    · go_simp
  · go_simp

theorem implParty_is (pe len hei cl : Int) (all : Bool) (be : Int) (w : World) :
    Calls Tryd.prog 72 #[.agg #[.int .i64 pe, .int .i64 len, .int .i64 hei, .int .i64 cl, .bool all, .int .i64 be]] w fun e w' => e = .returned (.bool (decide (PartyOk ⟨pe, len, hei, cl, all, be⟩))) ∧ Below w.heap.size w w' := by
  refine (implParty_any pe len hei cl all be w).mono ?_
  rintro e w' ⟨⟨b, rfl, hb⟩, hw⟩
  refine ⟨?_, hw⟩
  congr 2
  rw [Bool.eq_iff_iff, hb, decide_eq_true_eq]
theorem form_cases {k : Nat} (h : 1 ≤ k ∧ k ≤ 9) : k = 1 ∨ k = 2 ∨ k = 3 ∨ k = 4 ∨ k = 5 ∨ k = 6 ∨ k = 7 ∨ k = 8 ∨ k = 9 := by omega
theorem owner_form {k : Nat} (s : ByteArray) : (if fOwner k then decide (IsName s) else s.toList.isEmpty) = decide (OwnerOk k s) := by
  by_cases c : k = 2 ∨ k = 3 ∨ k = 7
  · have e : fOwner k = true := decide_eq_true c
    rw [e, if_pos rfl]
    have c2 : (k : Int) = 2 ∨ (k : Int) = 3 ∨ (k : Int) = 7 := by omega
    rw [Bool.eq_iff_iff, decide_eq_true_eq, decide_eq_true_eq]
    unfold OwnerOk
    rw [if_pos c2]
  · have e : fOwner k = false := decide_eq_false c
    rw [e, owner_empty s (show ¬ ((k : Int) = 2 ∨ (k : Int) = 3 ∨ (k : Int) = 7) by omega)]
    rfl
theorem name_form {k : Nat} (n : Int) : (if fName k then decide (In n 1 30) else (n == 0)) = decide (NameOk k n) := by
  by_cases c : 4 ≤ k ∧ k ≤ 8
  · have e : fName k = true := decide_eq_true c
    have c2 : In (k : Int) 4 8 := ⟨by omega, by omega⟩
    rw [e, if_pos rfl, Bool.eq_iff_iff, decide_eq_true_eq, decide_eq_true_eq]
    unfold NameOk
    rw [if_pos c2]
  · have e : fName k = false := decide_eq_false c
    rw [e, name_zero n (show ¬ In (k : Int) 4 8 by unfold In; omega)]
    rfl
theorem legs_form {k : Nat} (n : Nat) : (if decide (0 < fLegs k) then decide (In (n : Int) 1 (fLegs k)) else ((n : Int) == 0)) = decide (LegsOkFor k n) := by
  by_cases c : k = 1 ∨ k = 2 ∨ k = 3 ∨ k = 5
  · have e : fLegs k = 3 := if_pos c
    have c2 : HasLegs (k : Int) := by unfold HasLegs; omega
    rw [e, show decide ((0 : Int) < 3) = true from rfl, if_pos rfl, Bool.eq_iff_iff, decide_eq_true_eq, decide_eq_true_eq]
    unfold LegsOkFor In
    rw [if_pos c2]
    omega
  · have c2 : ¬ HasLegs (k : Int) := by unfold HasLegs; omega
    by_cases c9 : k = 9
    · have e : fLegs k = 1 := by unfold fLegs; rw [if_neg c, if_pos c9]
      rw [e, show decide ((0 : Int) < 1) = true from rfl, if_pos rfl, Bool.eq_iff_iff, decide_eq_true_eq, decide_eq_true_eq]
      unfold LegsOkFor In
      rw [if_neg c2, if_pos (by omega)]
      omega
    · have e : fLegs k = 0 := by unfold fLegs; rw [if_neg c, if_neg c9]
      rw [e, show decide ((0 : Int) < 0) = false from rfl, if_neg (by decide), int_zero, Bool.eq_iff_iff, decide_eq_true_eq, decide_eq_true_eq]
      unfold LegsOkFor
      rw [if_neg c2, if_neg (by omega)]
theorem party_form {k : Nat} {q : Bool} {p : Party} (h : q = true ↔ PartyOk p) : (if fParty k then q else PZ p.pe p.len p.hei p.cl p.all p.be) = decide (PartyOkFor k p) := by
  by_cases c : k = 1 ∨ k = 2 ∨ k = 3 ∨ k = 5
  · have e : fParty k = true := decide_eq_true c
    rw [e, if_pos rfl]
    exact (party_says (show HasLegs (k : Int) by unfold HasLegs; omega) h).symm
  · have e : fParty k = false := decide_eq_false c
    rw [e, if_neg (by decide)]
    exact party_none (show ¬ HasLegs (k : Int) by unfold HasLegs; omega)
theorem until_form {k : Nat} (u : Int) : (if fUntil k then decide (In u 0 10000) else (u == 0)) = decide (UntilOk k u) := by
  by_cases c : k = 2
  · have e : fUntil k = true := decide_eq_true c
    rw [e, if_pos rfl, Bool.eq_iff_iff, decide_eq_true_eq, decide_eq_true_eq]
    unfold UntilOk In
    omega
  · have e : fUntil k = false := decide_eq_false c
    rw [e, if_neg (by decide), Bool.eq_iff_iff, beq_iff_eq, decide_eq_true_eq]
    unfold UntilOk
    omega
theorem now_form {k : Nat} (u : Int) : (if fNow k then decide (In u 0 10000) else (u == 0)) = decide (NowOk k u) := by
  by_cases c : k = 6 ∨ k = 8
  · have e : fNow k = true := decide_eq_true c
    rw [e, if_pos rfl, Bool.eq_iff_iff, decide_eq_true_eq, decide_eq_true_eq]
    unfold NowOk In
    omega
  · have e : fNow k = false := decide_eq_false c
    rw [e, if_neg (by decide), Bool.eq_iff_iff, beq_iff_eq, decide_eq_true_eq]
    unfold NowOk
    omega

set_option maxHeartbeats 6400000 in
set_option maxRecDepth 100000 in
theorem implOp_any (cs : List Value) (x : OpD) (w : World) (hs : x.own.size ≤ 1000000000000000) (h : OpD.Is w cs x) (hF : FormsAt w) :
    Calls Tryd.prog 31 #[.agg cs.toArray] w fun e w' => e = .returned (.bool (decide (OpOk x))) ∧ Below w.heap.size w w' := by
  obtain ⟨alg, clg, rfl, _, _⟩ := h
  obtain ⟨V, hV⟩ : ∃ V, V = decide (OpOk x) := ⟨_, rfl⟩
  rw [← hV]
  have HV : Hid (V = true ↔ OpOk x) := by show V = true ↔ OpOk x; rw [hV, decide_eq_true_eq]
  clear hV
  have HFM : Hid (FormsAt w) := hF
  clear hF
  have qP := party_eql x.pe x.len x.hei x.cl x.all x.be
  have hb0 : Below w.heap.size w (w.alloc (.cells #[.int .i64 x.kind, .string x.own, .int .i64 x.name, .slice alg x.lgn clg, .int .i64 x.pe, .int .i64 x.len, .int .i64 x.hei, .int .i64 x.cl, .bool x.all, .int .i64 x.be, .int .i64 x.unt, .int .i64 x.now] 32)) := push (Below.refl _ _) _
  have b0 := heap_alloc_new w (.cells #[.int .i64 x.kind, .string x.own, .int .i64 x.name, .slice alg x.lgn clg, .int .i64 x.pe, .int .i64 x.len, .int .i64 x.hei, .int .i64 x.cl, .bool x.all, .int .i64 x.be, .int .i64 x.unt, .int .i64 x.now] 32)
  go_enter Tryd.func31, Tryd.ntmps31
  go_wp2_with fail
  generalize w.alloc (.cells #[.int .i64 x.kind, .string x.own, .int .i64 x.name, .slice alg x.lgn clg, .int .i64 x.pe, .int .i64 x.len, .int .i64 x.hei, .int .i64 x.cl, .bool x.all, .int .i64 x.be, .int .i64 x.unt, .int .i64 x.now] 32) = W at hb0 b0 ⊢
  obtain ⟨t0, ht0⟩ : ∃ t, t = decide (In x.kind 1 9) := ⟨_, rfl⟩
  have HT0 : Hid (t0 = true ↔ In x.kind 1 9) := by show t0 = true ↔ In x.kind 1 9; rw [ht0, decide_eq_true_eq]
  refine (within_is _ _ _ _).mono ?_
  rw [← ht0]
  clear ht0
  rintro e v ⟨rfl, hv⟩
  have hv := hv.symm
  subst hv
  cases t0 with
  | false =>
    have HN : Hid (V = false) := Bool.eq_false_iff.2 (fun h => by have := HT0.out.2 (HV.out.1 h).1; cases this)
    go_wp2
    go_ret
    exact ⟨by rw [HN.out]; rfl, hb0⟩
  | true =>
  have HIN : Hid (In x.kind 1 9) := HT0.out.1 rfl
  obtain ⟨k, hk⟩ : ∃ k : Nat, x.kind = (k : Int) := ⟨x.kind.toNat, by have := HIN.out.1; omega⟩
  have HKD : Hid (x.kind = (k : Int)) := hk
  have hk9 : 1 ≤ k ∧ k ≤ 9 := by have := HIN.out; unfold In at this; omega
  clear HT0
  have t0 : W.cell? ⟨0, k * 7, none⟩ = some (.bool (fOwner k)) := (hb0.cell (p := ⟨0, k * 7, none⟩) HFM.out.lt).trans (HFM.out k (by omega)).1
  have t1 : W.cell? ⟨0, k * 7 + 1, none⟩ = some (.bool (fName k)) := (hb0.cell (p := ⟨0, k * 7 + 1, none⟩) HFM.out.lt).trans (HFM.out k (by omega)).2.1
  have t2 : W.cell? ⟨0, k * 7 + 2, none⟩ = some (.int .i64 (fLegs k)) := (hb0.cell (p := ⟨0, k * 7 + 2, none⟩) HFM.out.lt).trans (HFM.out k (by omega)).2.2.1
  have t3 : W.cell? ⟨0, k * 7 + 3, none⟩ = some (.bool (fParty k)) := (hb0.cell (p := ⟨0, k * 7 + 3, none⟩) HFM.out.lt).trans (HFM.out k (by omega)).2.2.2.1
  have t4 : W.cell? ⟨0, k * 7 + 4, none⟩ = some (.bool (fUntil k)) := (hb0.cell (p := ⟨0, k * 7 + 4, none⟩) HFM.out.lt).trans (HFM.out k (by omega)).2.2.2.2.1
  have t5 : W.cell? ⟨0, k * 7 + 5, none⟩ = some (.bool (fNow k)) := (hb0.cell (p := ⟨0, k * 7 + 5, none⟩) HFM.out.lt).trans (HFM.out k (by omega)).2.2.2.2.2.1
  have t6 : W.cell? ⟨0, k * 7 + 6, none⟩ = some (.bool (fFrees k)) := (hb0.cell (p := ⟨0, k * 7 + 6, none⟩) HFM.out.lt).trans (HFM.out k (by omega)).2.2.2.2.2.2
  have y0 : W.cell? ⟨w.heap.size, 0, none⟩ = some (.int .i64 (k : Int)) := by rw [← hk]; exact blk_cell b0 0 _ rfl
  have hk0 : (0 : Int) ≤ (k : Int) := by omega
  have hk1 : (k : Int) < 10 := by omega
  have bO1 := blk_alloc b0 (.cells #[.bool (fOwner k), .bool (fName k), .int .i64 (fLegs k), .bool (fParty k), .bool (fUntil k), .bool (fNow k), .bool (fFrees k)] 100)
  have bF1 := heap_alloc_new W (.cells #[.bool (fOwner k), .bool (fName k), .int .i64 (fLegs k), .bool (fParty k), .bool (fUntil k), .bool (fNow k), .bool (fFrees k)] 100)
  have hb1 := push hb0 (.cells #[.bool (fOwner k), .bool (fName k), .int .i64 (fLegs k), .bool (fParty k), .bool (fUntil k), .bool (fNow k), .bool (fFrees k)] 100)
  clear hk
  go_upto_region 4 with fail
  generalize hFx : W.heap.size = Fx at bF1 ⊢
  generalize W.alloc (.cells #[.bool (fOwner k), .bool (fName k), .int .i64 (fLegs k), .bool (fParty k), .bool (fUntil k), .bool (fNow k), .bool (fFrees k)] 100) = W1 at hb1 bO1 bF1 ⊢
  clear y0 t0 t1 t2 t3 t4 t5 t6 hk0 hk1 hb0 b0 hFx
  have lO := blk_lt bO1
  have lF := blk_lt bF1
  have z1 : ∀ g : Grown W1, g.val.cell? ⟨w.heap.size, 1, none⟩ = some (.string x.own) := fun g => (g.bel.cell lO).trans (blk_cell bO1 1 _ rfl)
  have z2 : ∀ g : Grown W1, g.val.cell? ⟨w.heap.size, 2, none⟩ = some (.int .i64 x.name) := fun g => (g.bel.cell lO).trans (blk_cell bO1 2 _ rfl)
  have z3 : ∀ g : Grown W1, g.val.cell? ⟨w.heap.size, 3, none⟩ = some (.slice alg x.lgn clg) := fun g => (g.bel.cell lO).trans (blk_cell bO1 3 _ rfl)
  have z4 : ∀ g : Grown W1, g.val.cell? ⟨w.heap.size, 4, none⟩ = some (.int .i64 x.pe) := fun g => (g.bel.cell lO).trans (blk_cell bO1 4 _ rfl)
  have z5 : ∀ g : Grown W1, g.val.cell? ⟨w.heap.size, 5, none⟩ = some (.int .i64 x.len) := fun g => (g.bel.cell lO).trans (blk_cell bO1 5 _ rfl)
  have z6 : ∀ g : Grown W1, g.val.cell? ⟨w.heap.size, 6, none⟩ = some (.int .i64 x.hei) := fun g => (g.bel.cell lO).trans (blk_cell bO1 6 _ rfl)
  have z7 : ∀ g : Grown W1, g.val.cell? ⟨w.heap.size, 7, none⟩ = some (.int .i64 x.cl) := fun g => (g.bel.cell lO).trans (blk_cell bO1 7 _ rfl)
  have z8 : ∀ g : Grown W1, g.val.cell? ⟨w.heap.size, 8, none⟩ = some (.bool x.all) := fun g => (g.bel.cell lO).trans (blk_cell bO1 8 _ rfl)
  have z9 : ∀ g : Grown W1, g.val.cell? ⟨w.heap.size, 9, none⟩ = some (.int .i64 x.be) := fun g => (g.bel.cell lO).trans (blk_cell bO1 9 _ rfl)
  have z10 : ∀ g : Grown W1, g.val.cell? ⟨w.heap.size, 10, none⟩ = some (.int .i64 x.unt) := fun g => (g.bel.cell lO).trans (blk_cell bO1 10 _ rfl)
  have z11 : ∀ g : Grown W1, g.val.cell? ⟨w.heap.size, 11, none⟩ = some (.int .i64 x.now) := fun g => (g.bel.cell lO).trans (blk_cell bO1 11 _ rfl)
  have f0 : ∀ g : Grown W1, g.val.cell? ⟨Fx, 0, none⟩ = some (.bool (fOwner k)) := fun g => (g.bel.cell lF).trans (blk_cell bF1 0 _ rfl)
  have f1 : ∀ g : Grown W1, g.val.cell? ⟨Fx, 1, none⟩ = some (.bool (fName k)) := fun g => (g.bel.cell lF).trans (blk_cell bF1 1 _ rfl)
  have f2 : ∀ g : Grown W1, g.val.cell? ⟨Fx, 2, none⟩ = some (.int .i64 (fLegs k)) := fun g => (g.bel.cell lF).trans (blk_cell bF1 2 _ rfl)
  have f3 : ∀ g : Grown W1, g.val.cell? ⟨Fx, 3, none⟩ = some (.bool (fParty k)) := fun g => (g.bel.cell lF).trans (blk_cell bF1 3 _ rfl)
  have f4 : ∀ g : Grown W1, g.val.cell? ⟨Fx, 4, none⟩ = some (.bool (fUntil k)) := fun g => (g.bel.cell lF).trans (blk_cell bF1 4 _ rfl)
  have f5 : ∀ g : Grown W1, g.val.cell? ⟨Fx, 5, none⟩ = some (.bool (fNow k)) := fun g => (g.bel.cell lF).trans (blk_cell bF1 5 _ rfl)
  obtain ⟨q0, hq0⟩ : ∃ t, decide (IsName x.own) = t := ⟨_, rfl⟩
  have HQ0 : Hid (decide (IsName x.own) = q0) := hq0
  obtain ⟨q1, hq1⟩ : ∃ t, decide (In x.name 1 30) = t := ⟨_, rfl⟩
  have HQ1 : Hid (decide (In x.name 1 30) = q1) := hq1
  obtain ⟨q2, hq2⟩ : ∃ t, decide (In (x.lgn : Int) 1 (fLegs k)) = t := ⟨_, rfl⟩
  have HQ2 : Hid (decide (In (x.lgn : Int) 1 (fLegs k)) = q2) := hq2
  obtain ⟨q3, hq3⟩ : ∃ t, decide (PartyOk ⟨x.pe, x.len, x.hei, x.cl, x.all, x.be⟩) = t := ⟨_, rfl⟩
  have HQ3 : Hid (decide (PartyOk ⟨x.pe, x.len, x.hei, x.cl, x.all, x.be⟩) = q3) := hq3
  obtain ⟨q4, hq4⟩ : ∃ t, decide (In x.unt 0 10000) = t := ⟨_, rfl⟩
  have HQ4 : Hid (decide (In x.unt 0 10000) = q4) := hq4
  obtain ⟨q5, hq5⟩ : ∃ t, decide (In x.now 0 10000) = t := ⟨_, rfl⟩
  have HQ5 : Hid (decide (In x.now 0 10000) = q5) := hq5
  clear hq0 hq1 hq2 hq3 hq4 hq5 bO1 bF1
  have HF0 : Hid ((if fOwner k then q0 else x.own.toList.isEmpty) = true ↔ OwnerOk x.kind x.own) := by
    show (if fOwner k then q0 else x.own.toList.isEmpty) = true ↔ OwnerOk x.kind x.own
    rw [← HQ0.out, owner_form x.own, decide_eq_true_eq, HKD.out]
  have HF1 : Hid ((if fName k then q1 else (x.name == 0)) = true ↔ NameOk x.kind x.name) := by
    show (if fName k then q1 else (x.name == 0)) = true ↔ NameOk x.kind x.name
    rw [← HQ1.out, name_form x.name, decide_eq_true_eq, HKD.out]
  have HF2 : Hid ((if decide (0 < fLegs k) then q2 else ((x.lgn : Int) == 0)) = true ↔ LegsOkFor x.kind x.lgn) := by
    show (if decide (0 < fLegs k) then q2 else ((x.lgn : Int) == 0)) = true ↔ LegsOkFor x.kind x.lgn
    rw [← HQ2.out, legs_form x.lgn, decide_eq_true_eq, HKD.out]
  have HF3 : Hid ((if fParty k then q3 else (PZ x.pe x.len x.hei x.cl x.all x.be)) = true ↔ PartyOkFor x.kind x.p) := by
    show (if fParty k then q3 else (PZ x.pe x.len x.hei x.cl x.all x.be)) = true ↔ PartyOkFor x.kind x.p
    have h3 : (if fParty k then q3 else PZ x.pe x.len x.hei x.cl x.all x.be) = decide (PartyOkFor (k : Int) x.p) := party_form (p := x.p) (show q3 = true ↔ PartyOk x.p by rw [← HQ3.out, decide_eq_true_eq]; exact Iff.rfl)
    rw [h3, decide_eq_true_eq, HKD.out]
  have HF4 : Hid ((if fUntil k then q4 else (x.unt == 0)) = true ↔ UntilOk x.kind x.unt) := by
    show (if fUntil k then q4 else (x.unt == 0)) = true ↔ UntilOk x.kind x.unt
    rw [← HQ4.out, until_form x.unt, decide_eq_true_eq, HKD.out]
  have HF5 : Hid ((if fNow k then q5 else (x.now == 0)) = true ↔ NowOk x.kind x.now) := by
    show (if fNow k then q5 else (x.now == 0)) = true ↔ NowOk x.kind x.now
    rw [← HQ5.out, now_form x.now, decide_eq_true_eq, HKD.out]
  by_cases p0 : OwnerOk x.kind x.own
  case neg =>
    have D0 : Hid ((if fOwner k then q0 else x.own.toList.isEmpty) = false) := Bool.eq_false_iff.2 (fun h => p0 (HF0.out.1 h))
    have HN : Hid (V = false) := Bool.eq_false_iff.2 (fun h => p0 (HV.out.1 h).2.1)
    clear p0
    refine wp_region_grow (by kernel_rfl) (by kernel_rfl) ?_
    simp only [List.append_eq, List.cons_append, List.nil_append]
    repeat (first | go_big_quiet_skip | (go_big_quiet_want; go_big_quiet_op; first | go_big_quiet_on | (apply Exists.intro; refine ⟨fun g => ?_, ?_⟩; (focus (go_at_call 71; with_reducible refine grown_call (v := .bool q0) (Calls.mono (isName_is x.own _ hs) ?_); rintro e w2 ⟨rfl, rfl⟩; exact ⟨by rw [HQ0.out], Below.refl _ _⟩)); go_big_quiet_on) | (apply Exists.intro; refine ⟨fun g => ?_, ?_⟩; (focus (go_at_call 70; with_reducible refine grown_call (v := .bool false) (Calls.mono (goodWhere_is (fOwner k) q0 x.own.toList.isEmpty _) ?_); rintro e w2 ⟨rfl, rfl⟩; exact ⟨by rw [D0.out], Below.refl _ _⟩)); go_big_quiet_on)))
    refine wpQuiet_nil ?_
    rintro _ ⟨g, rfl⟩
    go_wp2
    go_ret
    exact ⟨by rw [HN.out]; rfl, after hb1 g.bel⟩
  have D0 : Hid ((if fOwner k then q0 else x.own.toList.isEmpty) = true) := HF0.out.2 p0
  have HP0 : Hid (OwnerOk x.kind x.own) := p0
  clear p0
  by_cases p1 : NameOk x.kind x.name
  case neg =>
    have D1 : Hid ((if fName k then q1 else (x.name == 0)) = false) := Bool.eq_false_iff.2 (fun h => p1 (HF1.out.1 h))
    have HN : Hid (V = false) := Bool.eq_false_iff.2 (fun h => p1 (HV.out.1 h).2.2.1)
    clear p1
    refine wp_region_grow (by kernel_rfl) (by kernel_rfl) ?_
    simp only [List.append_eq, List.cons_append, List.nil_append]
    repeat (first | go_big_quiet_skip | (go_big_quiet_want; go_big_quiet_op; first | go_big_quiet_on | (apply Exists.intro; refine ⟨fun g => ?_, ?_⟩; (focus (go_at_call 71; with_reducible refine grown_call (v := .bool q0) (Calls.mono (isName_is x.own _ hs) ?_); rintro e w2 ⟨rfl, rfl⟩; exact ⟨by rw [HQ0.out], Below.refl _ _⟩)); go_big_quiet_on) | (apply Exists.intro; refine ⟨fun g => ?_, ?_⟩; (focus (go_at_call 69; with_reducible refine grown_call (v := .bool q1) (Calls.mono (within_is x.name 1 30 _) ?_); rintro e w2 ⟨rfl, rfl⟩; exact ⟨by rw [HQ1.out], Below.refl _ _⟩)); go_big_quiet_on) | (apply Exists.intro; refine ⟨fun g => ?_, ?_⟩; (focus (go_at_call 70; with_reducible refine grown_call (v := .bool true) (Calls.mono (goodWhere_is (fOwner k) q0 x.own.toList.isEmpty _) ?_); rintro e w2 ⟨rfl, rfl⟩; exact ⟨by rw [D0.out], Below.refl _ _⟩)); go_big_quiet_on) | (apply Exists.intro; refine ⟨fun g => ?_, ?_⟩; (focus (go_at_call 70; with_reducible refine grown_call (v := .bool false) (Calls.mono (goodWhere_is (fName k) q1 (x.name == 0) _) ?_); rintro e w2 ⟨rfl, rfl⟩; exact ⟨by rw [D1.out], Below.refl _ _⟩)); go_big_quiet_on)))
    refine wpQuiet_nil ?_
    rintro _ ⟨g, rfl⟩
    go_wp2
    go_ret
    exact ⟨by rw [HN.out]; rfl, after hb1 g.bel⟩
  have D1 : Hid ((if fName k then q1 else (x.name == 0)) = true) := HF1.out.2 p1
  have HP1 : Hid (NameOk x.kind x.name) := p1
  clear p1
  by_cases p2 : LegsOkFor x.kind x.lgn
  case neg =>
    have D2 : Hid ((if decide (0 < fLegs k) then q2 else ((x.lgn : Int) == 0)) = false) := Bool.eq_false_iff.2 (fun h => p2 (HF2.out.1 h))
    have HN : Hid (V = false) := Bool.eq_false_iff.2 (fun h => p2 (HV.out.1 h).2.2.2.1)
    clear p2
    refine wp_region_grow (by kernel_rfl) (by kernel_rfl) ?_
    simp only [List.append_eq, List.cons_append, List.nil_append]
    repeat (first | go_big_quiet_skip | (go_big_quiet_want; go_big_quiet_op; first | go_big_quiet_on | (apply Exists.intro; refine ⟨fun g => ?_, ?_⟩; (focus (go_at_call 71; with_reducible refine grown_call (v := .bool q0) (Calls.mono (isName_is x.own _ hs) ?_); rintro e w2 ⟨rfl, rfl⟩; exact ⟨by rw [HQ0.out], Below.refl _ _⟩)); go_big_quiet_on) | (apply Exists.intro; refine ⟨fun g => ?_, ?_⟩; (focus (go_at_call 69; with_reducible refine grown_call (v := .bool q1) (Calls.mono (within_is x.name 1 30 _) ?_); rintro e w2 ⟨rfl, rfl⟩; exact ⟨by rw [HQ1.out], Below.refl _ _⟩)); go_big_quiet_on) | (apply Exists.intro; refine ⟨fun g => ?_, ?_⟩; (focus (go_at_call 69; with_reducible refine grown_call (v := .bool q2) (Calls.mono (within_is (x.lgn : Int) 1 (fLegs k) _) ?_); rintro e w2 ⟨rfl, rfl⟩; exact ⟨by rw [HQ2.out], Below.refl _ _⟩)); go_big_quiet_on) | (apply Exists.intro; refine ⟨fun g => ?_, ?_⟩; (focus (go_at_call 70; with_reducible refine grown_call (v := .bool true) (Calls.mono (goodWhere_is (fOwner k) q0 x.own.toList.isEmpty _) ?_); rintro e w2 ⟨rfl, rfl⟩; exact ⟨by rw [D0.out], Below.refl _ _⟩)); go_big_quiet_on) | (apply Exists.intro; refine ⟨fun g => ?_, ?_⟩; (focus (go_at_call 70; with_reducible refine grown_call (v := .bool true) (Calls.mono (goodWhere_is (fName k) q1 (x.name == 0) _) ?_); rintro e w2 ⟨rfl, rfl⟩; exact ⟨by rw [D1.out], Below.refl _ _⟩)); go_big_quiet_on) | (apply Exists.intro; refine ⟨fun g => ?_, ?_⟩; (focus (go_at_call 70; with_reducible refine grown_call (v := .bool false) (Calls.mono (goodWhere_is (decide (0 < fLegs k)) q2 ((x.lgn : Int) == 0) _) ?_); rintro e w2 ⟨rfl, rfl⟩; exact ⟨by rw [D2.out], Below.refl _ _⟩)); go_big_quiet_on)))
    refine wpQuiet_nil ?_
    rintro _ ⟨g, rfl⟩
    go_wp2
    go_ret
    exact ⟨by rw [HN.out]; rfl, after hb1 g.bel⟩
  have D2 : Hid ((if decide (0 < fLegs k) then q2 else ((x.lgn : Int) == 0)) = true) := HF2.out.2 p2
  have HP2 : Hid (LegsOkFor x.kind x.lgn) := p2
  clear p2
  by_cases p3 : PartyOkFor x.kind x.p
  case neg =>
    have D3 : Hid ((if fParty k then q3 else (PZ x.pe x.len x.hei x.cl x.all x.be)) = false) := Bool.eq_false_iff.2 (fun h => p3 (HF3.out.1 h))
    have HN : Hid (V = false) := Bool.eq_false_iff.2 (fun h => p3 (HV.out.1 h).2.2.2.2.1)
    clear p3
    refine wp_region_grow (by kernel_rfl) (by kernel_rfl) ?_
    simp only [List.append_eq, List.cons_append, List.nil_append]
    repeat (first | go_big_quiet_skip | (go_big_quiet_want; go_big_quiet_op; first | go_big_quiet_on | (apply Exists.intro; refine ⟨fun g => ?_, ?_⟩; (focus (go_at_call 71; with_reducible refine grown_call (v := .bool q0) (Calls.mono (isName_is x.own _ hs) ?_); rintro e w2 ⟨rfl, rfl⟩; exact ⟨by rw [HQ0.out], Below.refl _ _⟩)); go_big_quiet_on) | (apply Exists.intro; refine ⟨fun g => ?_, ?_⟩; (focus (go_at_call 69; with_reducible refine grown_call (v := .bool q1) (Calls.mono (within_is x.name 1 30 _) ?_); rintro e w2 ⟨rfl, rfl⟩; exact ⟨by rw [HQ1.out], Below.refl _ _⟩)); go_big_quiet_on) | (apply Exists.intro; refine ⟨fun g => ?_, ?_⟩; (focus (go_at_call 69; with_reducible refine grown_call (v := .bool q2) (Calls.mono (within_is (x.lgn : Int) 1 (fLegs k) _) ?_); rintro e w2 ⟨rfl, rfl⟩; exact ⟨by rw [HQ2.out], Below.refl _ _⟩)); go_big_quiet_on) | (apply Exists.intro; refine ⟨fun g => ?_, ?_⟩; (focus (go_at_call 72; with_reducible refine grown_call (v := .bool q3) (Calls.mono (implParty_is x.pe x.len x.hei x.cl x.all x.be _) ?_); rintro e w2 ⟨rfl, hbb⟩; exact ⟨by rw [HQ3.out], hbb⟩)); go_big_quiet_on) | (apply Exists.intro; refine ⟨fun g => ?_, ?_⟩; (focus (go_at_call 70; with_reducible refine grown_call (v := .bool true) (Calls.mono (goodWhere_is (fOwner k) q0 x.own.toList.isEmpty _) ?_); rintro e w2 ⟨rfl, rfl⟩; exact ⟨by rw [D0.out], Below.refl _ _⟩)); go_big_quiet_on) | (apply Exists.intro; refine ⟨fun g => ?_, ?_⟩; (focus (go_at_call 70; with_reducible refine grown_call (v := .bool true) (Calls.mono (goodWhere_is (fName k) q1 (x.name == 0) _) ?_); rintro e w2 ⟨rfl, rfl⟩; exact ⟨by rw [D1.out], Below.refl _ _⟩)); go_big_quiet_on) | (apply Exists.intro; refine ⟨fun g => ?_, ?_⟩; (focus (go_at_call 70; with_reducible refine grown_call (v := .bool true) (Calls.mono (goodWhere_is (decide (0 < fLegs k)) q2 ((x.lgn : Int) == 0) _) ?_); rintro e w2 ⟨rfl, rfl⟩; exact ⟨by rw [D2.out], Below.refl _ _⟩)); go_big_quiet_on) | (apply Exists.intro; refine ⟨fun g => ?_, ?_⟩; (focus (go_at_call 70; with_reducible refine grown_call (v := .bool false) (Calls.mono (goodWhere_is (fParty k) q3 (PZ x.pe x.len x.hei x.cl x.all x.be) _) ?_); rintro e w2 ⟨rfl, rfl⟩; exact ⟨by rw [D3.out], Below.refl _ _⟩)); go_big_quiet_on)))
    refine wpQuiet_nil ?_
    rintro _ ⟨g, rfl⟩
    go_wp2
    go_ret
    exact ⟨by rw [HN.out]; rfl, after hb1 g.bel⟩
  have D3 : Hid ((if fParty k then q3 else (PZ x.pe x.len x.hei x.cl x.all x.be)) = true) := HF3.out.2 p3
  have HP3 : Hid (PartyOkFor x.kind x.p) := p3
  clear p3
  by_cases p4 : UntilOk x.kind x.unt
  case neg =>
    have D4 : Hid ((if fUntil k then q4 else (x.unt == 0)) = false) := Bool.eq_false_iff.2 (fun h => p4 (HF4.out.1 h))
    have HN : Hid (V = false) := Bool.eq_false_iff.2 (fun h => p4 (HV.out.1 h).2.2.2.2.2.1)
    clear p4
    refine wp_region_grow (by kernel_rfl) (by kernel_rfl) ?_
    simp only [List.append_eq, List.cons_append, List.nil_append]
    repeat (first | go_big_quiet_skip | (go_big_quiet_want; go_big_quiet_op; first | go_big_quiet_on | (apply Exists.intro; refine ⟨fun g => ?_, ?_⟩; (focus (go_at_call 71; with_reducible refine grown_call (v := .bool q0) (Calls.mono (isName_is x.own _ hs) ?_); rintro e w2 ⟨rfl, rfl⟩; exact ⟨by rw [HQ0.out], Below.refl _ _⟩)); go_big_quiet_on) | (apply Exists.intro; refine ⟨fun g => ?_, ?_⟩; (focus (go_at_call 69; with_reducible refine grown_call (v := .bool q1) (Calls.mono (within_is x.name 1 30 _) ?_); rintro e w2 ⟨rfl, rfl⟩; exact ⟨by rw [HQ1.out], Below.refl _ _⟩)); go_big_quiet_on) | (apply Exists.intro; refine ⟨fun g => ?_, ?_⟩; (focus (go_at_call 69; with_reducible refine grown_call (v := .bool q2) (Calls.mono (within_is (x.lgn : Int) 1 (fLegs k) _) ?_); rintro e w2 ⟨rfl, rfl⟩; exact ⟨by rw [HQ2.out], Below.refl _ _⟩)); go_big_quiet_on) | (apply Exists.intro; refine ⟨fun g => ?_, ?_⟩; (focus (go_at_call 72; with_reducible refine grown_call (v := .bool q3) (Calls.mono (implParty_is x.pe x.len x.hei x.cl x.all x.be _) ?_); rintro e w2 ⟨rfl, hbb⟩; exact ⟨by rw [HQ3.out], hbb⟩)); go_big_quiet_on) | (apply Exists.intro; refine ⟨fun g => ?_, ?_⟩; (focus (go_at_call 73; with_reducible refine grown_call (v := .bool q4) (Calls.mono (isTime_is x.unt _) ?_); rintro e w2 ⟨rfl, rfl⟩; exact ⟨by rw [HQ4.out], Below.refl _ _⟩)); go_big_quiet_on) | (apply Exists.intro; refine ⟨fun g => ?_, ?_⟩; (focus (go_at_call 70; with_reducible refine grown_call (v := .bool true) (Calls.mono (goodWhere_is (fOwner k) q0 x.own.toList.isEmpty _) ?_); rintro e w2 ⟨rfl, rfl⟩; exact ⟨by rw [D0.out], Below.refl _ _⟩)); go_big_quiet_on) | (apply Exists.intro; refine ⟨fun g => ?_, ?_⟩; (focus (go_at_call 70; with_reducible refine grown_call (v := .bool true) (Calls.mono (goodWhere_is (fName k) q1 (x.name == 0) _) ?_); rintro e w2 ⟨rfl, rfl⟩; exact ⟨by rw [D1.out], Below.refl _ _⟩)); go_big_quiet_on) | (apply Exists.intro; refine ⟨fun g => ?_, ?_⟩; (focus (go_at_call 70; with_reducible refine grown_call (v := .bool true) (Calls.mono (goodWhere_is (decide (0 < fLegs k)) q2 ((x.lgn : Int) == 0) _) ?_); rintro e w2 ⟨rfl, rfl⟩; exact ⟨by rw [D2.out], Below.refl _ _⟩)); go_big_quiet_on) | (apply Exists.intro; refine ⟨fun g => ?_, ?_⟩; (focus (go_at_call 70; with_reducible refine grown_call (v := .bool true) (Calls.mono (goodWhere_is (fParty k) q3 (PZ x.pe x.len x.hei x.cl x.all x.be) _) ?_); rintro e w2 ⟨rfl, rfl⟩; exact ⟨by rw [D3.out], Below.refl _ _⟩)); go_big_quiet_on) | (apply Exists.intro; refine ⟨fun g => ?_, ?_⟩; (focus (go_at_call 70; with_reducible refine grown_call (v := .bool false) (Calls.mono (goodWhere_is (fUntil k) q4 (x.unt == 0) _) ?_); rintro e w2 ⟨rfl, rfl⟩; exact ⟨by rw [D4.out], Below.refl _ _⟩)); go_big_quiet_on)))
    refine wpQuiet_nil ?_
    rintro _ ⟨g, rfl⟩
    go_wp2
    go_ret
    exact ⟨by rw [HN.out]; rfl, after hb1 g.bel⟩
  have D4 : Hid ((if fUntil k then q4 else (x.unt == 0)) = true) := HF4.out.2 p4
  have HP4 : Hid (UntilOk x.kind x.unt) := p4
  clear p4
  by_cases p5 : NowOk x.kind x.now
  case neg =>
    have D5 : Hid ((if fNow k then q5 else (x.now == 0)) = false) := Bool.eq_false_iff.2 (fun h => p5 (HF5.out.1 h))
    have HN : Hid (V = false) := Bool.eq_false_iff.2 (fun h => p5 (HV.out.1 h).2.2.2.2.2.2)
    clear p5
    refine wp_region_grow (by kernel_rfl) (by kernel_rfl) ?_
    simp only [List.append_eq, List.cons_append, List.nil_append]
    repeat (first | go_big_quiet_skip | (go_big_quiet_want; go_big_quiet_op; first | go_big_quiet_on | (apply Exists.intro; refine ⟨fun g => ?_, ?_⟩; (focus (go_at_call 71; with_reducible refine grown_call (v := .bool q0) (Calls.mono (isName_is x.own _ hs) ?_); rintro e w2 ⟨rfl, rfl⟩; exact ⟨by rw [HQ0.out], Below.refl _ _⟩)); go_big_quiet_on) | (apply Exists.intro; refine ⟨fun g => ?_, ?_⟩; (focus (go_at_call 69; with_reducible refine grown_call (v := .bool q1) (Calls.mono (within_is x.name 1 30 _) ?_); rintro e w2 ⟨rfl, rfl⟩; exact ⟨by rw [HQ1.out], Below.refl _ _⟩)); go_big_quiet_on) | (apply Exists.intro; refine ⟨fun g => ?_, ?_⟩; (focus (go_at_call 69; with_reducible refine grown_call (v := .bool q2) (Calls.mono (within_is (x.lgn : Int) 1 (fLegs k) _) ?_); rintro e w2 ⟨rfl, rfl⟩; exact ⟨by rw [HQ2.out], Below.refl _ _⟩)); go_big_quiet_on) | (apply Exists.intro; refine ⟨fun g => ?_, ?_⟩; (focus (go_at_call 72; with_reducible refine grown_call (v := .bool q3) (Calls.mono (implParty_is x.pe x.len x.hei x.cl x.all x.be _) ?_); rintro e w2 ⟨rfl, hbb⟩; exact ⟨by rw [HQ3.out], hbb⟩)); go_big_quiet_on) | (apply Exists.intro; refine ⟨fun g => ?_, ?_⟩; (focus (go_at_call 73; with_reducible refine grown_call (v := .bool q4) (Calls.mono (isTime_is x.unt _) ?_); rintro e w2 ⟨rfl, rfl⟩; exact ⟨by rw [HQ4.out], Below.refl _ _⟩)); go_big_quiet_on) | (apply Exists.intro; refine ⟨fun g => ?_, ?_⟩; (focus (go_at_call 73; with_reducible refine grown_call (v := .bool q5) (Calls.mono (isTime_is x.now _) ?_); rintro e w2 ⟨rfl, rfl⟩; exact ⟨by rw [HQ5.out], Below.refl _ _⟩)); go_big_quiet_on) | (apply Exists.intro; refine ⟨fun g => ?_, ?_⟩; (focus (go_at_call 70; with_reducible refine grown_call (v := .bool true) (Calls.mono (goodWhere_is (fOwner k) q0 x.own.toList.isEmpty _) ?_); rintro e w2 ⟨rfl, rfl⟩; exact ⟨by rw [D0.out], Below.refl _ _⟩)); go_big_quiet_on) | (apply Exists.intro; refine ⟨fun g => ?_, ?_⟩; (focus (go_at_call 70; with_reducible refine grown_call (v := .bool true) (Calls.mono (goodWhere_is (fName k) q1 (x.name == 0) _) ?_); rintro e w2 ⟨rfl, rfl⟩; exact ⟨by rw [D1.out], Below.refl _ _⟩)); go_big_quiet_on) | (apply Exists.intro; refine ⟨fun g => ?_, ?_⟩; (focus (go_at_call 70; with_reducible refine grown_call (v := .bool true) (Calls.mono (goodWhere_is (decide (0 < fLegs k)) q2 ((x.lgn : Int) == 0) _) ?_); rintro e w2 ⟨rfl, rfl⟩; exact ⟨by rw [D2.out], Below.refl _ _⟩)); go_big_quiet_on) | (apply Exists.intro; refine ⟨fun g => ?_, ?_⟩; (focus (go_at_call 70; with_reducible refine grown_call (v := .bool true) (Calls.mono (goodWhere_is (fParty k) q3 (PZ x.pe x.len x.hei x.cl x.all x.be) _) ?_); rintro e w2 ⟨rfl, rfl⟩; exact ⟨by rw [D3.out], Below.refl _ _⟩)); go_big_quiet_on) | (apply Exists.intro; refine ⟨fun g => ?_, ?_⟩; (focus (go_at_call 70; with_reducible refine grown_call (v := .bool true) (Calls.mono (goodWhere_is (fUntil k) q4 (x.unt == 0) _) ?_); rintro e w2 ⟨rfl, rfl⟩; exact ⟨by rw [D4.out], Below.refl _ _⟩)); go_big_quiet_on) | (apply Exists.intro; refine ⟨fun g => ?_, ?_⟩; (focus (go_at_call 70; with_reducible refine grown_call (v := .bool false) (Calls.mono (goodWhere_is (fNow k) q5 (x.now == 0) _) ?_); rintro e w2 ⟨rfl, rfl⟩; exact ⟨by rw [D5.out], Below.refl _ _⟩)); go_big_quiet_on)))
    refine wpQuiet_nil ?_
    rintro _ ⟨g, rfl⟩
    go_wp2
    go_ret
    exact ⟨by rw [HN.out]; rfl, after hb1 g.bel⟩
  have D5 : Hid ((if fNow k then q5 else (x.now == 0)) = true) := HF5.out.2 p5
  have HP5 : Hid (NowOk x.kind x.now) := p5
  clear p5
  have HN : Hid (V = true) := HV.out.2 ⟨HIN.out, HP0.out, HP1.out, HP2.out, HP3.out, HP4.out, HP5.out⟩
  refine wp_region_grow (by kernel_rfl) (by kernel_rfl) ?_
  simp only [List.append_eq, List.cons_append, List.nil_append]
  repeat (first | go_big_quiet_skip | (go_big_quiet_want; go_big_quiet_op; first | go_big_quiet_on | (apply Exists.intro; refine ⟨fun g => ?_, ?_⟩; (focus (go_at_call 71; with_reducible refine grown_call (v := .bool q0) (Calls.mono (isName_is x.own _ hs) ?_); rintro e w2 ⟨rfl, rfl⟩; exact ⟨by rw [HQ0.out], Below.refl _ _⟩)); go_big_quiet_on) | (apply Exists.intro; refine ⟨fun g => ?_, ?_⟩; (focus (go_at_call 69; with_reducible refine grown_call (v := .bool q1) (Calls.mono (within_is x.name 1 30 _) ?_); rintro e w2 ⟨rfl, rfl⟩; exact ⟨by rw [HQ1.out], Below.refl _ _⟩)); go_big_quiet_on) | (apply Exists.intro; refine ⟨fun g => ?_, ?_⟩; (focus (go_at_call 69; with_reducible refine grown_call (v := .bool q2) (Calls.mono (within_is (x.lgn : Int) 1 (fLegs k) _) ?_); rintro e w2 ⟨rfl, rfl⟩; exact ⟨by rw [HQ2.out], Below.refl _ _⟩)); go_big_quiet_on) | (apply Exists.intro; refine ⟨fun g => ?_, ?_⟩; (focus (go_at_call 72; with_reducible refine grown_call (v := .bool q3) (Calls.mono (implParty_is x.pe x.len x.hei x.cl x.all x.be _) ?_); rintro e w2 ⟨rfl, hbb⟩; exact ⟨by rw [HQ3.out], hbb⟩)); go_big_quiet_on) | (apply Exists.intro; refine ⟨fun g => ?_, ?_⟩; (focus (go_at_call 73; with_reducible refine grown_call (v := .bool q4) (Calls.mono (isTime_is x.unt _) ?_); rintro e w2 ⟨rfl, rfl⟩; exact ⟨by rw [HQ4.out], Below.refl _ _⟩)); go_big_quiet_on) | (apply Exists.intro; refine ⟨fun g => ?_, ?_⟩; (focus (go_at_call 73; with_reducible refine grown_call (v := .bool q5) (Calls.mono (isTime_is x.now _) ?_); rintro e w2 ⟨rfl, rfl⟩; exact ⟨by rw [HQ5.out], Below.refl _ _⟩)); go_big_quiet_on) | (apply Exists.intro; refine ⟨fun g => ?_, ?_⟩; (focus (go_at_call 70; with_reducible refine grown_call (v := .bool true) (Calls.mono (goodWhere_is (fOwner k) q0 x.own.toList.isEmpty _) ?_); rintro e w2 ⟨rfl, rfl⟩; exact ⟨by rw [D0.out], Below.refl _ _⟩)); go_big_quiet_on) | (apply Exists.intro; refine ⟨fun g => ?_, ?_⟩; (focus (go_at_call 70; with_reducible refine grown_call (v := .bool true) (Calls.mono (goodWhere_is (fName k) q1 (x.name == 0) _) ?_); rintro e w2 ⟨rfl, rfl⟩; exact ⟨by rw [D1.out], Below.refl _ _⟩)); go_big_quiet_on) | (apply Exists.intro; refine ⟨fun g => ?_, ?_⟩; (focus (go_at_call 70; with_reducible refine grown_call (v := .bool true) (Calls.mono (goodWhere_is (decide (0 < fLegs k)) q2 ((x.lgn : Int) == 0) _) ?_); rintro e w2 ⟨rfl, rfl⟩; exact ⟨by rw [D2.out], Below.refl _ _⟩)); go_big_quiet_on) | (apply Exists.intro; refine ⟨fun g => ?_, ?_⟩; (focus (go_at_call 70; with_reducible refine grown_call (v := .bool true) (Calls.mono (goodWhere_is (fParty k) q3 (PZ x.pe x.len x.hei x.cl x.all x.be) _) ?_); rintro e w2 ⟨rfl, rfl⟩; exact ⟨by rw [D3.out], Below.refl _ _⟩)); go_big_quiet_on) | (apply Exists.intro; refine ⟨fun g => ?_, ?_⟩; (focus (go_at_call 70; with_reducible refine grown_call (v := .bool true) (Calls.mono (goodWhere_is (fUntil k) q4 (x.unt == 0) _) ?_); rintro e w2 ⟨rfl, rfl⟩; exact ⟨by rw [D4.out], Below.refl _ _⟩)); go_big_quiet_on) | (apply Exists.intro; refine ⟨fun g => ?_, ?_⟩; (focus (go_at_call 70; with_reducible refine grown_call (v := .bool true) (Calls.mono (goodWhere_is (fNow k) q5 (x.now == 0) _) ?_); rintro e w2 ⟨rfl, rfl⟩; exact ⟨by rw [D5.out], Below.refl _ _⟩)); go_big_quiet_on)))
  refine wpQuiet_nil ?_
  rintro _ ⟨g, rfl⟩
  go_wp2
  go_ret
  exact ⟨by rw [HN.out]; rfl, after hb1 g.bel⟩

end Go.Proofs.YtfbooamjddnagaaDoor

namespace Go.Proofs.YtfbooamjddnagaaDoor
open Go.RowKit

/-- f, with u at place q. -/
def atV (f : Nat → Value) (q : Nat) (u : Value) (i : Nat) : Value := if i = q then u else f i
theorem atV_at (f : Nat → Value) (q : Nat) (u : Value) : atV f q u q = u := if_pos rfl
theorem atV_ne (f : Nat → Value) (q : Nat) (u : Value) (i : Nat) (h : i ≠ q) : atV f q u i = f i := if_neg h
theorem kept_row {w w' : World} {row : Option Nat} (h : w.grownBy w' row) : Kept w w' (fun b => row = some b) := ⟨h.os, h.tape, h.output, h.size, fun i hi hn => h.block i hi (fun e => hn e.symm)⟩

end Go.Proofs.YtfbooamjddnagaaDoor

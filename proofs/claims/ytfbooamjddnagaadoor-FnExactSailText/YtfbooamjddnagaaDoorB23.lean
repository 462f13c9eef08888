/-
  OWN TEXT: OpToldI, SpecSt2.
-/
import Derived.Test.YtfbooamjddnagaaDoorB11
import Derived.Test.YtfbooamjddnagaaDoorB21
import Derived.Test.YtfbooamjddnagaaDoorB22
import Derived.Test.YtfbooamjddnagaaDoorB16
import Derived.Test.YtfbooamjddnagaaDoorB18
namespace Go.Proofs.YtfbooamjddnagaaDoor
open Go.RowKit

theorem own_notT {w : World} {base e size n : Nat} {v : Value} {xs : List Value} (h : w.ownsRow base e size v n xs) {b t : Nat} {cs : Array Value} (hb : w.heap[b]? = some (.cells cs t (0, 0))) (hne : e ≠ t) : ∀ g, v.ownBlock = some g → ¬ g = b := by
  rintro g hg rfl
  rcases h.2 with ⟨rfl, _⟩ | ⟨g', cap', cur, rfl, _, hg', _⟩
  · simp [Value.ownBlock] at hg
  · simp only [Value.ownBlock, Option.some.injEq] at hg
    subst hg
    rw [hg'] at hb
    simp only [Option.some.injEq, Obj.cells.injEq] at hb
    exact hne hb.2.1
/-- The table of the words lies there. -/
def WordsAt (w : World) : Prop := ∀ k, k < 10 → w.cell? ⟨1, k, none⟩ = some (.string (wordT k))
theorem WordsAt.lt {w : World} (h : WordsAt w) : 1 < w.heap.size := World.block_lt_of_cell? w _ (h 0 (by decide))
theorem WordsAt.below {w w' : World} (h : WordsAt w) (hb : Below w.heap.size w w') : WordsAt w' := fun k hk => (hb.cell (p := ⟨1, k, none⟩) h.lt).trans (h k hk)

/-- The words so far, beside the operation's box and its form's. -/
structure TSt (w wx : World) (ob fb : Nat) (co cf : Array Value) (v : Value) (L : List ByteArray) : Prop where
  o : wx.heap[ob]? = some (.cells co 32 (0, 0))
  f : wx.heap[fb]? = some (.cells cf 100 (0, 0))
  own : OwnT wx w.heap.size v L
  bel : Below w.heap.size w wx
theorem TSt.below {w wx wy : World} {ob fb : Nat} {co cf : Array Value} {v : Value} {L : List ByteArray} (h : TSt w wx ob fb co cf v L) (hb : Below wx.heap.size wx wy) : TSt w wy ob fb co cf v L :=
  ⟨blk_below h.o hb, blk_below h.f hb, own_below hb h.own, after h.bel hb⟩
theorem TSt.app {w wx wy : World} {ob fb : Nat} {co cf : Array Value} {v v' : Value} {L : List ByteArray} {p : ByteArray} (h : TSt w wx ob fb co cf v L) (hg : wx.grownBy wy v.ownBlock) (ho : wy.ownsRow w.heap.size 9 1 v' (L.length + 1) (L.map Value.string ++ [.string p])) : TSt w wy ob fb co cf v' (L ++ [p]) := by
  refine ⟨(kept_row hg).blk h.o (fun e => own_notT h.own h.o (by decide) ob e rfl), (kept_row hg).blk h.f (fun e => own_notT h.own h.f (by decide) fb e rfl), ?_, h.bel.grown hg h.bel.size (fun j hj => (World.ownsRow.lt h.own j hj).1)⟩
  unfold OwnT
  rw [List.length_append, List.map_append]
  exact ho

set_option maxHeartbeats 3200000 in
set_option maxRecDepth 100000 in
theorem opTold_any (x : OpD) (alg : Option Addr) (clg : Nat) (w : World) (hx : HasText x) (hlg : IntsAt w alg x.lgn x.lg) (hP : PowAt w) (hF : FormsAt w) (hW : WordsAt w) :
    Calls Tryd.prog 34 #[.agg #[.int .i64 x.kind, .string x.own, .int .i64 x.name, .slice alg x.lgn clg, .int .i64 x.pe, .int .i64 x.len, .int .i64 x.hei, .int .i64 x.cl, .bool x.all, .int .i64 x.be, .int .i64 x.unt, .int .i64 x.now]] w fun e w' => ∃ v, e = .returned v ∧ OwnT w' w.heap.size v (opP6 x) ∧ Below w.heap.size w w' := by
  have HX : Hid (HasText x) := hx
  have HP : Hid (PowAt w) := hP
  have HLG : Hid (IntsAt w alg x.lgn x.lg) := hlg
  obtain ⟨k, hk⟩ : ∃ k : Nat, x.kind = (k : Int) := ⟨x.kind.toNat, by have := hx.1.1.1; omega⟩
  have HKD : Hid (x.kind.toNat = k) := by show x.kind.toNat = k; omega
  have HKI : Hid (x.kind = (k : Int)) := hk
  have hk9 : 1 ≤ k ∧ k ≤ 9 := by have := hx.1.1; unfold In at this; omega
  have hb0 : Below w.heap.size w (w.alloc (.cells #[.int .i64 x.kind, .string x.own, .int .i64 x.name, .slice alg x.lgn clg, .int .i64 x.pe, .int .i64 x.len, .int .i64 x.hei, .int .i64 x.cl, .bool x.all, .int .i64 x.be, .int .i64 x.unt, .int .i64 x.now] 32)) := push (Below.refl _ _) _
  have b0 := heap_alloc_new w (.cells #[.int .i64 x.kind, .string x.own, .int .i64 x.name, .slice alg x.lgn clg, .int .i64 x.pe, .int .i64 x.len, .int .i64 x.hei, .int .i64 x.cl, .bool x.all, .int .i64 x.be, .int .i64 x.unt, .int .i64 x.now] 32)
  clear hx hP hlg hk
  obtain ⟨j0, ji, jz0, jz1, jz2⟩ := info_parts Tryd.infoText
  go_enter Tryd.func34, Tryd.ntmps34
  go_upto_region 1 with fail
  generalize w.alloc (.cells #[.int .i64 x.kind, .string x.own, .int .i64 x.name, .slice alg x.lgn clg, .int .i64 x.pe, .int .i64 x.len, .int .i64 x.hei, .int .i64 x.cl, .bool x.all, .int .i64 x.be, .int .i64 x.unt, .int .i64 x.now] 32) = W at hb0 b0 ⊢
  have t0 : W.cell? ⟨0, k * 7, none⟩ = some (.bool (fOwner k)) := (hb0.cell (p := ⟨0, k * 7, none⟩) hF.lt).trans (hF k (by omega)).1
  have t1 : W.cell? ⟨0, k * 7 + 1, none⟩ = some (.bool (fName k)) := (hb0.cell (p := ⟨0, k * 7 + 1, none⟩) hF.lt).trans (hF k (by omega)).2.1
  have t2 : W.cell? ⟨0, k * 7 + 2, none⟩ = some (.int .i64 (fLegs k)) := (hb0.cell (p := ⟨0, k * 7 + 2, none⟩) hF.lt).trans (hF k (by omega)).2.2.1
  have t3 : W.cell? ⟨0, k * 7 + 3, none⟩ = some (.bool (fParty k)) := (hb0.cell (p := ⟨0, k * 7 + 3, none⟩) hF.lt).trans (hF k (by omega)).2.2.2.1
  have t4 : W.cell? ⟨0, k * 7 + 4, none⟩ = some (.bool (fUntil k)) := (hb0.cell (p := ⟨0, k * 7 + 4, none⟩) hF.lt).trans (hF k (by omega)).2.2.2.2.1
  have t5 : W.cell? ⟨0, k * 7 + 5, none⟩ = some (.bool (fNow k)) := (hb0.cell (p := ⟨0, k * 7 + 5, none⟩) hF.lt).trans (hF k (by omega)).2.2.2.2.2.1
  have t6 : W.cell? ⟨0, k * 7 + 6, none⟩ = some (.bool (fFrees k)) := (hb0.cell (p := ⟨0, k * 7 + 6, none⟩) hF.lt).trans (hF k (by omega)).2.2.2.2.2.2
  have y0 : W.cell? ⟨w.heap.size, 0, none⟩ = some (.int .i64 (k : Int)) := by rw [← HKI.out]; exact blk_cell b0 0 _ rfl
  have hk0 : (0 : Int) ≤ (k : Int) := by omega
  have hk1 : (k : Int) < 10 := by omega
  have bO1 := blk_alloc b0 (.cells #[.bool (fOwner k), .bool (fName k), .int .i64 (fLegs k), .bool (fParty k), .bool (fUntil k), .bool (fNow k), .bool (fFrees k)] 100)
  have bF1 := heap_alloc_new W (.cells #[.bool (fOwner k), .bool (fName k), .int .i64 (fLegs k), .bool (fParty k), .bool (fUntil k), .bool (fNow k), .bool (fFrees k)] 100)
  have hb1 := push hb0 (.cells #[.bool (fOwner k), .bool (fName k), .int .i64 (fLegs k), .bool (fParty k), .bool (fUntil k), .bool (fNow k), .bool (fFrees k)] 100)
  have u0 : (W.alloc (.cells #[.bool (fOwner k), .bool (fName k), .int .i64 (fLegs k), .bool (fParty k), .bool (fUntil k), .bool (fNow k), .bool (fFrees k)] 100)).cell? ⟨1, k, none⟩ = some (.string (wordT k)) := hW.below hb1 k (by omega)
  have y1 : (W.alloc (.cells #[.bool (fOwner k), .bool (fName k), .int .i64 (fLegs k), .bool (fParty k), .bool (fUntil k), .bool (fNow k), .bool (fFrees k)] 100)).cell? ⟨w.heap.size, 0, none⟩ = some (.int .i64 (k : Int)) := by rw [← HKI.out]; exact blk_cell bO1 0 _ rfl
  clear hW hF
  go_upto_region 2 with fail
  generalize hFx : W.heap.size = Fx at bF1 ⊢
  generalize W.alloc (.cells #[.bool (fOwner k), .bool (fName k), .int .i64 (fLegs k), .bool (fParty k), .bool (fUntil k), .bool (fNow k), .bool (fFrees k)] 100) = W1 at hb1 bO1 bF1 u0 y1 ⊢
  clear y0 t0 t1 t2 t3 t4 t5 t6 hb0 b0 hFx
  have HS0 : Hid (TSt w (W1.alloc (.cells #[.string (wordT k)] 9)) w.heap.size Fx #[.int .i64 x.kind, .string x.own, .int .i64 x.name, .slice alg x.lgn clg, .int .i64 x.pe, .int .i64 x.len, .int .i64 x.hei, .int .i64 x.cl, .bool x.all, .int .i64 x.be, .int .i64 x.unt, .int .i64 x.now] #[.bool (fOwner k), .bool (fName k), .int .i64 (fLegs k), .bool (fParty k), .bool (fUntil k), .bool (fNow k), .bool (fFrees k)] (.slice (some ⟨W1.heap.size, 0, none⟩) 1 1) (opP0 x)) :=
    ⟨blk_alloc bO1 _, blk_alloc bF1 _, by unfold opP0; rw [HKD.out]; exact ⟨rfl, .inr ⟨W1.heap.size, 1, #[.string (wordT k)], rfl, hb1.size, heap_alloc_new W1 _, Nat.le_refl _, by unfold maxLen; omega, rfl, rfl⟩⟩, push hb1 _⟩
  go_upto_region 3 with fail
  generalize W1.alloc (.cells #[.string (wordT k)] 9) = W2 at HS0 ⊢
  generalize (Value.slice (some ⟨W1.heap.size, 0, none⟩) 1 1) = v0 at HS0 ⊢
  clear bO1 bF1 hb1 u0 y1 hk0 hk1
  clear W1 W
  have f1 := blk_cell HS0.out.f 1 _ rfl
  obtain ⟨q1, hq1⟩ : ∃ q, q = fName k := ⟨_, rfl⟩
  have HQ1 : Hid (fName k = q1) := hq1.symm
  rw [← hq1] at f1
  clear hq1
  go_upto_if 15 with fail
  go_cut [4] (fun v wx => Hid (TSt w wx w.heap.size Fx #[.int .i64 x.kind, .string x.own, .int .i64 x.name, .slice alg x.lgn clg, .int .i64 x.pe, .int .i64 x.len, .int .i64 x.hei, .int .i64 x.cl, .bool x.all, .int .i64 x.be, .int .i64 x.unt, .int .i64 x.now] #[.bool (fOwner k), .bool (fName k), .int .i64 (fLegs k), .bool (fParty k), .bool (fUntil k), .bool (fNow k), .bool (fFrees k)] v (opP1 x)))
  case first =>
    clear f1
    cases q1 with
    | false =>
      go_wp2
      go_meet
      have e : opP1 x = opP0 x := by
        unfold opP1 opt
        rw [HKD.out, HQ1.out]
        exact List.append_nil _
      rw [e]
      exact HS0.out
    | true =>
      have e : opP1 x = opP0 x ++ [numT x.name] := by
        unfold opP1 opt
        rw [HKD.out, HQ1.out]
        rfl
      have E : Hid (opP1 x = opP0 x ++ [numT x.name]) := e
      clear e
      obtain ⟨lo, lc, rfl, _⟩ := own_form HS0.out.own
      have hL : (opP0 x).length ≤ 1 := len_P0 x
      have z2 := blk_cell HS0.out.o 2 _ rfl
      have hr := rng1 HX.out HKD.out HQ1.out
      go_wp2_with fail
      refine (itoa_any x.name (by omega) (by omega) _ (HP.out.below HS0.out.bel)).mono ?_
      rintro e w3 ⟨rfl, hb3⟩
      have H3 : Hid _ := (HS0.out.below hb3).below (push (Below.refl _ _) (.cells #[.string (numT x.name)] 9))
      clear z2 hb3
      have hsz := H3.out.bel.size
      go_wp2_with (first | (at_builtin; refine wpList_append_any _ (by rfl) (.tmp 16) (.tmp 20) 64 (by rfl) w.heap.size 9 j0 (.string ⟨#[]⟩) 1 16 Tryd.underlying64 ji jz0 jz1 jz2 rfl (by decide) _ (opP0 x).length ((opP0 x).map Value.string) (by rfl) H3.out.own (some ⟨w3.heap.size, 0, none⟩) 1 1 [.string (numT x.name)] (by rfl) (fun h => by cases h) (by rfl) (fun ad h => by cases h; exact World.news_of_block (heap_alloc_new w3 _)) (by intro u hu; simp only [List.mem_cons, List.not_mem_nil, or_false] at hu; subst hu; rfl) (by unfold maxLen; omega) (by omega) hsz ?_; intro v9 w9 ho9 hg9))
      go_meet
      rw [E.out]
      exact H3.out.app hg9 ho9
  case rest =>
  obtain ⟨v1, hv1, HS1⟩ : ∃ v, v = u4 ∧ Hid (TSt w wc w.heap.size Fx #[.int .i64 x.kind, .string x.own, .int .i64 x.name, .slice alg x.lgn clg, .int .i64 x.pe, .int .i64 x.len, .int .i64 x.hei, .int .i64 x.cl, .bool x.all, .int .i64 x.be, .int .i64 x.unt, .int .i64 x.now] #[.bool (fOwner k), .bool (fName k), .int .i64 (fLegs k), .bool (fParty k), .bool (fUntil k), .bool (fNow k), .bool (fFrees k)] v (opP1 x)) := ⟨_, rfl, hcut.out⟩
  subst hv1
  clear hcut HS0
  have f2 := blk_cell HS1.out.f 0 _ rfl
  obtain ⟨q2, hq2⟩ : ∃ q, q = fOwner k := ⟨_, rfl⟩
  have HQ2 : Hid (fOwner k = q2) := hq2.symm
  rw [← hq2] at f2
  clear hq2
  go_upto_if 23 with fail
  go_cut [4] (fun v wx => Hid (TSt w wx w.heap.size Fx #[.int .i64 x.kind, .string x.own, .int .i64 x.name, .slice alg x.lgn clg, .int .i64 x.pe, .int .i64 x.len, .int .i64 x.hei, .int .i64 x.cl, .bool x.all, .int .i64 x.be, .int .i64 x.unt, .int .i64 x.now] #[.bool (fOwner k), .bool (fName k), .int .i64 (fLegs k), .bool (fParty k), .bool (fUntil k), .bool (fNow k), .bool (fFrees k)] v (opP2 x)))
  case first =>
    clear f2
    cases q2 with
    | false =>
      go_wp2
      go_meet
      have e : opP2 x = opP1 x := by
        unfold opP2 opt
        rw [HKD.out, HQ2.out]
        exact List.append_nil _
      rw [e]
      exact HS1.out
    | true =>
      have e : opP2 x = opP1 x ++ [x.own] := by
        unfold opP2 opt
        rw [HKD.out, HQ2.out]
        rfl
      have E : Hid (opP2 x = opP1 x ++ [x.own]) := e
      clear e
      obtain ⟨lo, lc, rfl, _⟩ := own_form HS1.out.own
      have hL : (opP1 x).length ≤ 2 := len_P1 x
      have z1 := blk_cell HS1.out.o 1 _ rfl
      have H3 : Hid _ := HS1.out.below (push (Below.refl _ _) (.cells #[.string x.own] 9))
      have hsz := H3.out.bel.size
      go_wp2_with (first | (at_builtin; refine wpList_append_any _ (by rfl) (.tmp 24) (.tmp 27) 64 (by rfl) w.heap.size 9 j0 (.string ⟨#[]⟩) 1 16 Tryd.underlying64 ji jz0 jz1 jz2 rfl (by decide) _ (opP1 x).length ((opP1 x).map Value.string) (by rfl) H3.out.own (some ⟨wc.heap.size, 0, none⟩) 1 1 [.string x.own] (by rfl) (fun h => by cases h) (by rfl) (fun ad h => by cases h; exact World.news_of_block (heap_alloc_new wc _)) (by intro u hu; simp only [List.mem_cons, List.not_mem_nil, or_false] at hu; subst hu; rfl) (by unfold maxLen; omega) (by omega) hsz ?_; intro v9 w9 ho9 hg9))
      go_meet
      rw [E.out]
      exact H3.out.app hg9 ho9
  case rest =>
  obtain ⟨v2, hv2, HS2⟩ : ∃ v, v = u4 ∧ Hid (TSt w wc w.heap.size Fx #[.int .i64 x.kind, .string x.own, .int .i64 x.name, .slice alg x.lgn clg, .int .i64 x.pe, .int .i64 x.len, .int .i64 x.hei, .int .i64 x.cl, .bool x.all, .int .i64 x.be, .int .i64 x.unt, .int .i64 x.now] #[.bool (fOwner k), .bool (fName k), .int .i64 (fLegs k), .bool (fParty k), .bool (fUntil k), .bool (fNow k), .bool (fFrees k)] v (opP2 x)) := ⟨_, rfl, hcut.out⟩
  subst hv2
  clear hcut HS1
  have f3 := blk_cell HS2.out.f 2 _ rfl
  have hle : decide ((0 : Int) < fLegs k) = decide (0 < fLegs k) := rfl
  obtain ⟨q3, hq3⟩ : ∃ q, q = decide (0 < fLegs k) := ⟨_, rfl⟩
  have HQ3 : Hid (decide (0 < fLegs k) = q3) := hq3.symm
  have hq3' : decide ((0 : Int) < fLegs k) = q3 := hq3.symm
  clear hq3 hle
  go_upto_if 31 with fail
  go_cut [4] (fun v wx => Hid (TSt w wx w.heap.size Fx #[.int .i64 x.kind, .string x.own, .int .i64 x.name, .slice alg x.lgn clg, .int .i64 x.pe, .int .i64 x.len, .int .i64 x.hei, .int .i64 x.cl, .bool x.all, .int .i64 x.be, .int .i64 x.unt, .int .i64 x.now] #[.bool (fOwner k), .bool (fName k), .int .i64 (fLegs k), .bool (fParty k), .bool (fUntil k), .bool (fNow k), .bool (fFrees k)] v (opP3 x)))
  case first =>
    clear f3
    cases q3 with
    | false =>
      go_wp2
      go_meet
      have e : opP3 x = opP2 x := by
        unfold opP3 opt
        rw [HKD.out, HQ3.out]
        exact List.append_nil _
      rw [e]
      exact HS2.out
    | true =>
      have e : opP3 x = opP2 x ++ [legsT x.lgn x.lg] := by
        unfold opP3 opt
        rw [HKD.out, HQ3.out]
        rfl
      have E : Hid (opP3 x = opP2 x ++ [legsT x.lgn x.lg]) := e
      clear e
      obtain ⟨lo, lc, rfl, _⟩ := own_form HS2.out.own
      have hL : (opP2 x).length ≤ 3 := len_P2 x
      have z3 := blk_cell HS2.out.o 3 _ rfl
      have hr := rng3 HX.out HKD.out HQ3.out
      go_wp2_with fail
      refine (listInt_any alg x.lgn clg x.lg _ hr.1 hr.2 (HLG.out.below HS2.out.bel) HX.out.2 (HP.out.below HS2.out.bel)).mono ?_
      rintro e w3 ⟨rfl, hb3⟩
      have H3 : Hid _ := (HS2.out.below hb3).below (push (Below.refl _ _) (.cells #[.string (legsT x.lgn x.lg)] 9))
      clear z3 hb3
      have hsz := H3.out.bel.size
      go_wp2_with (first | (at_builtin; refine wpList_append_any _ (by rfl) (.tmp 32) (.tmp 36) 64 (by rfl) w.heap.size 9 j0 (.string ⟨#[]⟩) 1 16 Tryd.underlying64 ji jz0 jz1 jz2 rfl (by decide) _ (opP2 x).length ((opP2 x).map Value.string) (by rfl) H3.out.own (some ⟨w3.heap.size, 0, none⟩) 1 1 [.string (legsT x.lgn x.lg)] (by rfl) (fun h => by cases h) (by rfl) (fun ad h => by cases h; exact World.news_of_block (heap_alloc_new w3 _)) (by intro u hu; simp only [List.mem_cons, List.not_mem_nil, or_false] at hu; subst hu; rfl) (by unfold maxLen; omega) (by omega) hsz ?_; intro v9 w9 ho9 hg9))
      go_meet
      rw [E.out]
      exact H3.out.app hg9 ho9
  case rest =>
  obtain ⟨v3, hv3, HS3⟩ : ∃ v, v = u4 ∧ Hid (TSt w wc w.heap.size Fx #[.int .i64 x.kind, .string x.own, .int .i64 x.name, .slice alg x.lgn clg, .int .i64 x.pe, .int .i64 x.len, .int .i64 x.hei, .int .i64 x.cl, .bool x.all, .int .i64 x.be, .int .i64 x.unt, .int .i64 x.now] #[.bool (fOwner k), .bool (fName k), .int .i64 (fLegs k), .bool (fParty k), .bool (fUntil k), .bool (fNow k), .bool (fFrees k)] v (opP3 x)) := ⟨_, rfl, hcut.out⟩
  subst hv3
  clear hcut HS2
  have f4 := blk_cell HS3.out.f 3 _ rfl
  obtain ⟨q4, hq4⟩ : ∃ q, q = fParty k := ⟨_, rfl⟩
  have HQ4 : Hid (fParty k = q4) := hq4.symm
  rw [← hq4] at f4
  clear hq4
  go_upto_if 39 with fail
  go_cut [4] (fun v wx => Hid (TSt w wx w.heap.size Fx #[.int .i64 x.kind, .string x.own, .int .i64 x.name, .slice alg x.lgn clg, .int .i64 x.pe, .int .i64 x.len, .int .i64 x.hei, .int .i64 x.cl, .bool x.all, .int .i64 x.be, .int .i64 x.unt, .int .i64 x.now] #[.bool (fOwner k), .bool (fName k), .int .i64 (fLegs k), .bool (fParty k), .bool (fUntil k), .bool (fNow k), .bool (fFrees k)] v (opP4 x)))
  case first =>
    clear f4
    cases q4 with
    | false =>
      go_wp2
      go_meet
      have e : opP4 x = opP3 x := by
        unfold opP4 opt
        rw [HKD.out, HQ4.out]
        exact List.append_nil _
      rw [e]
      exact HS3.out
    | true =>
      have e : opP4 x = opP3 x ++ [partyT x.p] := by
        unfold opP4 opt
        rw [HKD.out, HQ4.out]
        rfl
      have E : Hid (opP4 x = opP3 x ++ [partyT x.p]) := e
      clear e
      obtain ⟨lo, lc, rfl, _⟩ := own_form HS3.out.own
      have hL : (opP3 x).length ≤ 4 := len_P3 x
      have z4 := blk_cell HS3.out.o 4 _ rfl
      have z5 := blk_cell HS3.out.o 5 _ rfl
      have z6 := blk_cell HS3.out.o 6 _ rfl
      have z7 := blk_cell HS3.out.o 7 _ rfl
      have z8 := blk_cell HS3.out.o 8 _ rfl
      have z9 := blk_cell HS3.out.o 9 _ rfl
      have hr := rng4 HX.out HKD.out HQ4.out
      go_wp2_with fail
      refine (partyText_any x.p _ hr (HP.out.below HS3.out.bel)).mono ?_
      rintro e w3 ⟨rfl, hb3⟩
      have H3 : Hid _ := (HS3.out.below hb3).below (push (Below.refl _ _) (.cells #[.string (partyT x.p)] 9))
      clear z4 z5 z6 z7 z8 z9 hb3
      have hsz := H3.out.bel.size
      go_wp2_with (first | (at_builtin; refine wpList_append_any _ (by rfl) (.tmp 40) (.tmp 44) 64 (by rfl) w.heap.size 9 j0 (.string ⟨#[]⟩) 1 16 Tryd.underlying64 ji jz0 jz1 jz2 rfl (by decide) _ (opP3 x).length ((opP3 x).map Value.string) (by rfl) H3.out.own (some ⟨w3.heap.size, 0, none⟩) 1 1 [.string (partyT x.p)] (by rfl) (fun h => by cases h) (by rfl) (fun ad h => by cases h; exact World.news_of_block (heap_alloc_new w3 _)) (by intro u hu; simp only [List.mem_cons, List.not_mem_nil, or_false] at hu; subst hu; rfl) (by unfold maxLen; omega) (by omega) hsz ?_; intro v9 w9 ho9 hg9))
      go_meet
      rw [E.out]
      exact H3.out.app hg9 ho9
  case rest =>
  obtain ⟨v4, hv4, HS4⟩ : ∃ v, v = u4 ∧ Hid (TSt w wc w.heap.size Fx #[.int .i64 x.kind, .string x.own, .int .i64 x.name, .slice alg x.lgn clg, .int .i64 x.pe, .int .i64 x.len, .int .i64 x.hei, .int .i64 x.cl, .bool x.all, .int .i64 x.be, .int .i64 x.unt, .int .i64 x.now] #[.bool (fOwner k), .bool (fName k), .int .i64 (fLegs k), .bool (fParty k), .bool (fUntil k), .bool (fNow k), .bool (fFrees k)] v (opP4 x)) := ⟨_, rfl, hcut.out⟩
  subst hv4
  clear hcut HS3
  have f5 := blk_cell HS4.out.f 4 _ rfl
  obtain ⟨q5, hq5⟩ : ∃ q, q = fUntil k := ⟨_, rfl⟩
  have HQ5 : Hid (fUntil k = q5) := hq5.symm
  rw [← hq5] at f5
  clear hq5
  go_upto_if 47 with fail
  go_cut [4] (fun v wx => Hid (TSt w wx w.heap.size Fx #[.int .i64 x.kind, .string x.own, .int .i64 x.name, .slice alg x.lgn clg, .int .i64 x.pe, .int .i64 x.len, .int .i64 x.hei, .int .i64 x.cl, .bool x.all, .int .i64 x.be, .int .i64 x.unt, .int .i64 x.now] #[.bool (fOwner k), .bool (fName k), .int .i64 (fLegs k), .bool (fParty k), .bool (fUntil k), .bool (fNow k), .bool (fFrees k)] v (opP5 x)))
  case first =>
    clear f5
    cases q5 with
    | false =>
      go_wp2
      go_meet
      have e : opP5 x = opP4 x := by
        unfold opP5 opt
        rw [HKD.out, HQ5.out]
        exact List.append_nil _
      rw [e]
      exact HS4.out
    | true =>
      have e : opP5 x = opP4 x ++ [numT x.unt] := by
        unfold opP5 opt
        rw [HKD.out, HQ5.out]
        rfl
      have E : Hid (opP5 x = opP4 x ++ [numT x.unt]) := e
      clear e
      obtain ⟨lo, lc, rfl, _⟩ := own_form HS4.out.own
      have hL : (opP4 x).length ≤ 5 := len_P4 x
      have z10 := blk_cell HS4.out.o 10 _ rfl
      have hr := rng5 HX.out HKD.out HQ5.out
      go_wp2_with fail
      refine (itoa_any x.unt (by omega) (by omega) _ (HP.out.below HS4.out.bel)).mono ?_
      rintro e w3 ⟨rfl, hb3⟩
      have H3 : Hid _ := (HS4.out.below hb3).below (push (Below.refl _ _) (.cells #[.string (numT x.unt)] 9))
      clear z10 hb3
      have hsz := H3.out.bel.size
      go_wp2_with (first | (at_builtin; refine wpList_append_any _ (by rfl) (.tmp 48) (.tmp 52) 64 (by rfl) w.heap.size 9 j0 (.string ⟨#[]⟩) 1 16 Tryd.underlying64 ji jz0 jz1 jz2 rfl (by decide) _ (opP4 x).length ((opP4 x).map Value.string) (by rfl) H3.out.own (some ⟨w3.heap.size, 0, none⟩) 1 1 [.string (numT x.unt)] (by rfl) (fun h => by cases h) (by rfl) (fun ad h => by cases h; exact World.news_of_block (heap_alloc_new w3 _)) (by intro u hu; simp only [List.mem_cons, List.not_mem_nil, or_false] at hu; subst hu; rfl) (by unfold maxLen; omega) (by omega) hsz ?_; intro v9 w9 ho9 hg9))
      go_meet
      rw [E.out]
      exact H3.out.app hg9 ho9
  case rest =>
  obtain ⟨v5, hv5, HS5⟩ : ∃ v, v = u4 ∧ Hid (TSt w wc w.heap.size Fx #[.int .i64 x.kind, .string x.own, .int .i64 x.name, .slice alg x.lgn clg, .int .i64 x.pe, .int .i64 x.len, .int .i64 x.hei, .int .i64 x.cl, .bool x.all, .int .i64 x.be, .int .i64 x.unt, .int .i64 x.now] #[.bool (fOwner k), .bool (fName k), .int .i64 (fLegs k), .bool (fParty k), .bool (fUntil k), .bool (fNow k), .bool (fFrees k)] v (opP5 x)) := ⟨_, rfl, hcut.out⟩
  subst hv5
  clear hcut HS4
  have f6 := blk_cell HS5.out.f 5 _ rfl
  obtain ⟨q6, hq6⟩ : ∃ q, q = fNow k := ⟨_, rfl⟩
  have HQ6 : Hid (fNow k = q6) := hq6.symm
  rw [← hq6] at f6
  clear hq6
  go_upto_if 55 with fail
  go_cut [4] (fun v wx => Hid (TSt w wx w.heap.size Fx #[.int .i64 x.kind, .string x.own, .int .i64 x.name, .slice alg x.lgn clg, .int .i64 x.pe, .int .i64 x.len, .int .i64 x.hei, .int .i64 x.cl, .bool x.all, .int .i64 x.be, .int .i64 x.unt, .int .i64 x.now] #[.bool (fOwner k), .bool (fName k), .int .i64 (fLegs k), .bool (fParty k), .bool (fUntil k), .bool (fNow k), .bool (fFrees k)] v (opP6 x)))
  case first =>
    clear f6
    cases q6 with
    | false =>
      go_wp2
      go_meet
      have e : opP6 x = opP5 x := by
        unfold opP6 opt
        rw [HKD.out, HQ6.out]
        exact List.append_nil _
      rw [e]
      exact HS5.out
    | true =>
      have e : opP6 x = opP5 x ++ [numT x.now] := by
        unfold opP6 opt
        rw [HKD.out, HQ6.out]
        rfl
      have E : Hid (opP6 x = opP5 x ++ [numT x.now]) := e
      clear e
      obtain ⟨lo, lc, rfl, _⟩ := own_form HS5.out.own
      have hL : (opP5 x).length ≤ 6 := len_P5 x
      have z11 := blk_cell HS5.out.o 11 _ rfl
      have hr := rng6 HX.out HKD.out HQ6.out
      go_wp2_with fail
      refine (itoa_any x.now (by omega) (by omega) _ (HP.out.below HS5.out.bel)).mono ?_
      rintro e w3 ⟨rfl, hb3⟩
      have H3 : Hid _ := (HS5.out.below hb3).below (push (Below.refl _ _) (.cells #[.string (numT x.now)] 9))
      clear z11 hb3
      have hsz := H3.out.bel.size
      go_wp2_with (first | (at_builtin; refine wpList_append_any _ (by rfl) (.tmp 56) (.tmp 60) 64 (by rfl) w.heap.size 9 j0 (.string ⟨#[]⟩) 1 16 Tryd.underlying64 ji jz0 jz1 jz2 rfl (by decide) _ (opP5 x).length ((opP5 x).map Value.string) (by rfl) H3.out.own (some ⟨w3.heap.size, 0, none⟩) 1 1 [.string (numT x.now)] (by rfl) (fun h => by cases h) (by rfl) (fun ad h => by cases h; exact World.news_of_block (heap_alloc_new w3 _)) (by intro u hu; simp only [List.mem_cons, List.not_mem_nil, or_false] at hu; subst hu; rfl) (by unfold maxLen; omega) (by omega) hsz ?_; intro v9 w9 ho9 hg9))
      go_meet
      rw [E.out]
      exact H3.out.app hg9 ho9
  case rest =>
  obtain ⟨v6, hv6, HS6⟩ : ∃ v, v = u4 ∧ Hid (TSt w wc w.heap.size Fx #[.int .i64 x.kind, .string x.own, .int .i64 x.name, .slice alg x.lgn clg, .int .i64 x.pe, .int .i64 x.len, .int .i64 x.hei, .int .i64 x.cl, .bool x.all, .int .i64 x.be, .int .i64 x.unt, .int .i64 x.now] #[.bool (fOwner k), .bool (fName k), .int .i64 (fLegs k), .bool (fParty k), .bool (fUntil k), .bool (fNow k), .bool (fFrees k)] v (opP6 x)) := ⟨_, rfl, hcut.out⟩
  subst hv6
  clear hcut HS5
  go_wp2
  go_ret
  exact ⟨_, rfl, HS6.out.own, HS6.out.bel⟩

end Go.Proofs.YtfbooamjddnagaaDoor

namespace Go.Proofs.YtfbooamjddnagaaDoor
open Go.RowKit

theorem Tryd.infoIntS' : (Tryd.prog.info? 22).map (fun i => (i.zero, i.size, i.bytes)) = some (some (.slice none 0 0), 1, 24) := by kernel_rfl
/-- Lists of two numbers in a row of one's own, the first k of them. -/
structure PSt (w wx : World) (v : Value) (p : Pairs) (k : Nat) (g : Nat → Nat) : Prop where
  own : wx.ownsRow w.heap.size 22 1 v k ((List.range k).map (fun i => .slice (some ⟨g i, 0, none⟩) 2 2))
  el : ∀ i, i < k → wx.heap[g i]? = some (.cells #[.int .i64 (p.A i), .int .i64 (p.B i)] 3 (0, 0))
theorem PSt.below {w wx wy : World} {v : Value} {p : Pairs} {k : Nat} {g : Nat → Nat} (h : PSt w wx v p k g) (hb : Below wx.heap.size wx wy) : PSt w wy v p k g := ⟨own_below hb h.own, fun i hi => blk_below (h.el i hi) hb⟩
theorem PSt.app {w wx wy : World} {v v' : Value} {p : Pairs} {k m : Nat} {g : Nat → Nat} (h : PSt w wx v p k g) (hm : wx.heap[m]? = some (.cells #[.int .i64 (p.A k), .int .i64 (p.B k)] 3 (0, 0))) (hg : wx.grownBy wy v.ownBlock)
    (ho : wy.ownsRow w.heap.size 22 1 v' (k + 1) ((List.range k).map (fun i => Value.slice (some ⟨g i, 0, none⟩) 2 2) ++ [.slice (some ⟨m, 0, none⟩) 2 2])) : PSt w wy v' p (k + 1) (fun i => if i = k then m else g i) := by
  refine ⟨?_, fun i hi => ?_⟩
  · have e : (List.range (k + 1)).map (fun i => Value.slice (some ⟨(if i = k then m else g i), 0, none⟩) 2 2) = (List.range k).map (fun i => Value.slice (some ⟨g i, 0, none⟩) 2 2) ++ [.slice (some ⟨m, 0, none⟩) 2 2] := by
      rw [List.range_succ, List.map_append, List.map_cons, List.map_nil, if_pos rfl]
      congr 1
      refine List.map_congr_left fun i hi => ?_
      have : i < k := by simpa using hi
      rw [if_neg (by omega)]
    rw [e]
    exact ho
  · by_cases e : i = k
    · subst e
      rw [if_pos rfl]
      exact (kept_row hg).blk hm (fun e => own_notT h.own hm (by decide) _ e rfl)
    · rw [if_neg e]
      exact (kept_row hg).blk (h.el i (by omega)) (fun e' => own_notT h.own (h.el i (by omega)) (by decide) _ e' rfl)
theorem PSt.rows {w wx : World} {ao : Option Addr} {c : Nat} {p : Pairs} {g : Nat → Nat} (h : PSt w wx (.slice ao p.n c) p p.n g) : PRows wx ao p := fun k hk => by
  obtain ⟨b, rfl, _, _⟩ := own_addr h.own (by omega)
  refine ⟨b, 0, g k, rfl, ?_, h.el k hk⟩
  rw [Nat.zero_add]
  exact own_cell h.own k (by omega) (by omega)
theorem text_all (s : Sail) : (⟨#[115, 97, 105, 108, 32]⟩ : ByteArray) ++ numT s.id ++ ⟨#[32]⟩ ++ s.fr ++ ⟨#[32]⟩ ++ s.dst ++ ⟨#[32]⟩ ++ numT s.dep ++ ⟨#[32]⟩ ++ numT s.arr ++ ⟨#[32]⟩ ++ numT s.most ++ ⟨#[32]⟩ ++ pairsT s.la ++ ⟨#[32]⟩ ++ pairsT s.ca = sailT s := by
  have key : ∀ (l : List ByteArray) (p : ByteArray), l ≠ [] → joinT spT (l ++ [p]) = joinT spT l ++ (⟨#[32]⟩ ++ p) := fun l p hl => joinT_snoc spT p hl
  unfold sailT sailP
  rw [show [sailW, numT s.id, s.fr, s.dst, numT s.dep, numT s.arr, numT s.most, pairsT s.la, pairsT s.ca] = ((((((([sailW] ++ [numT s.id]) ++ [s.fr]) ++ [s.dst]) ++ [numT s.dep]) ++ [numT s.arr]) ++ [numT s.most]) ++ [pairsT s.la]) ++ [pairsT s.ca] from rfl,
    key _ _ (by simp), key _ _ (by simp), key _ _ (by simp), key _ _ (by simp), key _ _ (by simp), key _ _ (by simp), key _ _ (by simp), key _ _ (by simp), joinT_one]
  rw [show (⟨#[115, 97, 105, 108, 32]⟩ : ByteArray) = sailW ++ ⟨#[32]⟩ from rfl]
  simp only [ByteArray.append_assoc]

set_option maxHeartbeats 6400000 in
set_option maxRecDepth 100000 in
theorem l11Sail_any (s : Sail) (lo co : Option Addr) (c1 c2 : Nat) (w : World) (hs : GoodSail s) (hx : PairsAt w lo s.la) (hy : PairsAt w co s.ca) :
    Calls Tryd.prog 51 #[.agg #[.int .i64 s.id, .string s.fr, .string s.dst, .int .i64 s.dep, .int .i64 s.arr, .slice lo s.la.n c1, .slice co s.ca.n c2, .int .i64 s.most]] w fun e w' => e = .returned (.string (sailT s)) ∧ Below w.heap.size w w' := by
  have HG : Hid (GoodSail s) := hs
  have HXY : Hid (PairsAt w lo s.la ∧ PairsAt w co s.ca) := ⟨hx, hy⟩
  obtain ⟨na, hna⟩ : ∃ n, n = s.la.n := ⟨_, rfl⟩
  obtain ⟨nb, hnb⟩ : ∃ n, n = s.ca.n := ⟨_, rfl⟩
  have HNA : Hid (s.la.n = na ∧ s.ca.n = nb) := ⟨hna.symm, hnb.symm⟩
  have n6 : na ≤ 6 ∧ nb ≤ 6 := ⟨by rw [hna]; exact (small_la hs).1, by rw [hnb]; exact (small_ca hs).1⟩
  obtain ⟨j0, ji, jz0, jz1, jz2⟩ := info_parts Tryd.infoIntS'
  rw [← hna, ← hnb]
  clear hs hx hy hna hnb
  have hb0 : Below w.heap.size w (w.alloc (.cells #[.int .i64 s.id, .string s.fr, .string s.dst, .int .i64 s.dep, .int .i64 s.arr, .slice lo na c1, .slice co nb c2, .int .i64 s.most] 49)) := push (Below.refl _ _) _
  have b0 := heap_alloc_new w (.cells #[.int .i64 s.id, .string s.fr, .string s.dst, .int .i64 s.dep, .int .i64 s.arr, .slice lo na c1, .slice co nb c2, .int .i64 s.most] 49)
  go_enter Tryd.func51, Tryd.ntmps51
  go_upto_region 1 with fail
  generalize w.alloc (.cells #[.int .i64 s.id, .string s.fr, .string s.dst, .int .i64 s.dep, .int .i64 s.arr, .slice lo na c1, .slice co nb c2, .int .i64 s.most] 49) = W at hb0 b0 ⊢
  have HB0 : Hid (Below w.heap.size w W) := hb0
  have B0 : Hid (W.heap[w.heap.size]? = _) := b0
  have y5 := blk_cell b0 5 _ rfl
  have H0 : Hid (PSt W W (.slice none 0 0) s.la 0 (fun _ => 0)) := ⟨World.ownsRow_nil _ _ _ _, fun i hi => by omega⟩
  clear b0 hb0
  go_wp2
  go_loopw [3, 6, 12] (fun v _ i wr => ∃ (k : Nat) (g : Nat → Nat), k ≤ na ∧ i = .int .i64 k ∧ Hid (PSt W wr v s.la k g ∧ Below W.heap.size W wr)) (fun _ _ i _ => na - (intOf i).toNat)
  case atStart => exact ⟨0, _, Nat.zero_le _, rfl, H0.out, Below.refl _ _⟩
  case round =>
    obtain ⟨k, g, hk, rfl, HR⟩ := hrel
    clear H0
    by_cases hlt : k < na
    · obtain ⟨b, off, rfl, hc, hd⟩ := (HXY.out.1.below HB0.out) k (by rw [HNA.out.1]; exact hlt)
      have hc' : wr.cell? ⟨b, off + k * 2, none⟩ = some (.int .i64 (s.la.A k)) := (HR.out.2.cell (World.block_lt_of_cell? W _ hc)).trans hc
      have hd' : wr.cell? ⟨b, off + k * 2 + 1, none⟩ = some (.int .i64 (s.la.B k)) := (HR.out.2.cell (World.block_lt_of_cell? W _ hd)).trans hd
      clear hc hd
      obtain ⟨va, vc, rfl, _⟩ := own_form HR.out.1.own
      have bl := heap_alloc_new wr (.cells #[.int .i64 (s.la.A k), .int .i64 (s.la.B k)] 89)
      have HR1 : Hid (PSt W (wr.alloc (.cells #[.int .i64 (s.la.A k), .int .i64 (s.la.B k)] 89)) (.slice va k vc) s.la k g ∧ Below W.heap.size W (wr.alloc (.cells #[.int .i64 (s.la.A k), .int .i64 (s.la.B k)] 89))) := ⟨HR.out.1.below (push (Below.refl _ _) _), push HR.out.2 _⟩
      go_upto_region 5 with fail
      generalize wr.alloc (.cells #[.int .i64 (s.la.A k), .int .i64 (s.la.B k)] 89) = W1 at bl HR1 ⊢
      have z0 := blk_cell bl 0 _ rfl
      have z1 := blk_cell bl 1 _ rfl
      clear HR hc' hd' bl
      have HR3 : Hid (PSt W ((W1.alloc (.cells #[.int .i64 (s.la.A k), .int .i64 (s.la.B k)] 3)).alloc (.cells #[.slice (some ⟨W1.heap.size, 0, none⟩) 2 2] 22)) (.slice va k vc) s.la k g ∧ Below W.heap.size W ((W1.alloc (.cells #[.int .i64 (s.la.A k), .int .i64 (s.la.B k)] 3)).alloc (.cells #[.slice (some ⟨W1.heap.size, 0, none⟩) 2 2] 22))) := ⟨HR1.out.1.below (push (push (Below.refl _ _) _) _), push (push HR1.out.2 _) _⟩
      have HM : Hid (((W1.alloc (.cells #[.int .i64 (s.la.A k), .int .i64 (s.la.B k)] 3)).alloc (.cells #[.slice (some ⟨W1.heap.size, 0, none⟩) 2 2] 22)).heap[W1.heap.size]? = some (.cells #[.int .i64 (s.la.A k), .int .i64 (s.la.B k)] 3 (0, 0))) := blk_alloc (heap_alloc_new W1 _) _
      have hsz := HR3.out.2.size
      have hw1 : (W1.alloc (.cells #[.int .i64 (s.la.A k), .int .i64 (s.la.B k)] 3)).heap.size = W1.heap.size + 1 := by simp
      have HNW : Hid (∀ j u, [Value.slice (some ⟨W1.heap.size, 0, none⟩) 2 2][j]? = some u → ((W1.alloc (.cells #[.int .i64 (s.la.A k), .int .i64 (s.la.B k)] 3)).alloc (.cells #[.slice (some ⟨W1.heap.size, 0, none⟩) 2 2] 22)).cell? ((⟨W1.heap.size + 1, 0, none⟩ : Addr).add j) = some u) := by
        have := World.news_of_block (heap_alloc_new (W1.alloc (.cells #[.int .i64 (s.la.A k), .int .i64 (s.la.B k)] 3)) (.cells #[.slice (some ⟨W1.heap.size, 0, none⟩) 2 2] 22))
        rw [hw1] at this
        exact this
      clear HR1
      go_wp2_with (first | (at_builtin; refine wpList_append_any _ (by rfl) (.tmp 16) (.tmp 22) 86 (by rfl) W.heap.size 22 j0 (.slice none 0 0) 1 24 Tryd.underlying86 ji jz0 jz1 jz2 rfl (by decide) _ k ((List.range k).map (fun i => Value.slice (some ⟨g i, 0, none⟩) 2 2)) (by rfl) HR3.out.1.own (some ⟨W1.heap.size + 1, 0, none⟩) 1 1 [.slice (some ⟨W1.heap.size, 0, none⟩) 2 2] (by rfl) (fun h => by cases h) (by rfl) (fun ad h => by cases h; exact HNW.out) (by intro u hu; simp only [List.mem_cons, List.not_mem_nil, or_false] at hu; subst hu; rfl) (by unfold maxLen; omega) (by omega) hsz ?_; intro v9 w9 ho9 hg9))
      have HN9 : Hid (PSt W w9 v9 s.la (k + 1) (fun i => if i = k then W1.heap.size else g i) ∧ Below W.heap.size W w9) := ⟨HR3.out.1.app HM.out hg9 ho9, HR3.out.2.grown hg9 hsz (fun j hj => (World.ownsRow.lt HR3.out.1.own j hj).1)⟩
      clear HR3 HM HNW hsz hw1 z0 z1 ho9 hg9
      go_roundw
      case rel => exact ⟨k + 1, _, by omega, by go_num, HN9.out⟩
      case measure => simp [intOf]; omega
    · obtain rfl : na = k := by omega
      clear y5
      obtain ⟨va, vc, rfl, _⟩ := own_form HR.out.1.own
      have HPA : Hid (PRows wr va s.la) := by
        have h := HR.out.1
        rw [← HNA.out.1] at h
        exact h.rows
      have HBW : Hid (Below w.heap.size w wr) := after HB0.out HR.out.2
      have b2 := blk_below B0.out HR.out.2
      clear HR B0 HB0
      obtain ⟨W2, hW2⟩ : ∃ z, z = wr := ⟨_, rfl⟩
      subst hW2
      have y6 := blk_cell b2 6 _ rfl
      have B2 : Hid (W2.heap[w.heap.size]? = _) := b2
      clear b2
      have H0 : Hid (PSt W2 W2 (.slice none 0 0) s.ca 0 (fun _ => 0)) := ⟨World.ownsRow_nil _ _ _ _, fun i hi => by omega⟩
      go_wp2
      go_loopw [4, 8, 28] (fun v _ i wr => ∃ (k : Nat) (g : Nat → Nat), k ≤ nb ∧ i = .int .i64 k ∧ Hid (PSt W2 wr v s.ca k g ∧ Below W2.heap.size W2 wr)) (fun _ _ i _ => nb - (intOf i).toNat)
      case atStart => exact ⟨0, _, Nat.zero_le _, rfl, H0.out, Below.refl _ _⟩
      case round =>
        obtain ⟨k, g, hk, rfl, HR⟩ := hrel
        clear H0
        by_cases hlt : k < nb
        · obtain ⟨b, off, rfl, hc, hd⟩ := (HXY.out.2.below HBW.out) k (by rw [HNA.out.2]; exact hlt)
          have hc' : wr.cell? ⟨b, off + k * 2, none⟩ = some (.int .i64 (s.ca.A k)) := (HR.out.2.cell (World.block_lt_of_cell? W2 _ hc)).trans hc
          have hd' : wr.cell? ⟨b, off + k * 2 + 1, none⟩ = some (.int .i64 (s.ca.B k)) := (HR.out.2.cell (World.block_lt_of_cell? W2 _ hd)).trans hd
          clear hc hd
          obtain ⟨va, vc, rfl, _⟩ := own_form HR.out.1.own
          have bl := heap_alloc_new wr (.cells #[.int .i64 (s.ca.A k), .int .i64 (s.ca.B k)] 91)
          have HR1 : Hid (PSt W2 (wr.alloc (.cells #[.int .i64 (s.ca.A k), .int .i64 (s.ca.B k)] 91)) (.slice va k vc) s.ca k g ∧ Below W2.heap.size W2 (wr.alloc (.cells #[.int .i64 (s.ca.A k), .int .i64 (s.ca.B k)] 91))) := ⟨HR.out.1.below (push (Below.refl _ _) _), push HR.out.2 _⟩
          go_upto_region 10 with fail
          generalize wr.alloc (.cells #[.int .i64 (s.ca.A k), .int .i64 (s.ca.B k)] 91) = W1 at bl HR1 ⊢
          have z0 := blk_cell bl 0 _ rfl
          have z1 := blk_cell bl 1 _ rfl
          clear HR hc' hd' bl
          have HR3 : Hid (PSt W2 ((W1.alloc (.cells #[.int .i64 (s.ca.A k), .int .i64 (s.ca.B k)] 3)).alloc (.cells #[.slice (some ⟨W1.heap.size, 0, none⟩) 2 2] 22)) (.slice va k vc) s.ca k g ∧ Below W2.heap.size W2 ((W1.alloc (.cells #[.int .i64 (s.ca.A k), .int .i64 (s.ca.B k)] 3)).alloc (.cells #[.slice (some ⟨W1.heap.size, 0, none⟩) 2 2] 22))) := ⟨HR1.out.1.below (push (push (Below.refl _ _) _) _), push (push HR1.out.2 _) _⟩
          have HM : Hid (((W1.alloc (.cells #[.int .i64 (s.ca.A k), .int .i64 (s.ca.B k)] 3)).alloc (.cells #[.slice (some ⟨W1.heap.size, 0, none⟩) 2 2] 22)).heap[W1.heap.size]? = some (.cells #[.int .i64 (s.ca.A k), .int .i64 (s.ca.B k)] 3 (0, 0))) := blk_alloc (heap_alloc_new W1 _) _
          have hsz := HR3.out.2.size
          have hw1 : (W1.alloc (.cells #[.int .i64 (s.ca.A k), .int .i64 (s.ca.B k)] 3)).heap.size = W1.heap.size + 1 := by simp
          have HNW : Hid (∀ j u, [Value.slice (some ⟨W1.heap.size, 0, none⟩) 2 2][j]? = some u → ((W1.alloc (.cells #[.int .i64 (s.ca.A k), .int .i64 (s.ca.B k)] 3)).alloc (.cells #[.slice (some ⟨W1.heap.size, 0, none⟩) 2 2] 22)).cell? ((⟨W1.heap.size + 1, 0, none⟩ : Addr).add j) = some u) := by
            have := World.news_of_block (heap_alloc_new (W1.alloc (.cells #[.int .i64 (s.ca.A k), .int .i64 (s.ca.B k)] 3)) (.cells #[.slice (some ⟨W1.heap.size, 0, none⟩) 2 2] 22))
            rw [hw1] at this
            exact this
          clear HR1
          go_wp2_with (first | (at_builtin; refine wpList_append_any _ (by rfl) (.tmp 32) (.tmp 38) 86 (by rfl) W2.heap.size 22 j0 (.slice none 0 0) 1 24 Tryd.underlying86 ji jz0 jz1 jz2 rfl (by decide) _ k ((List.range k).map (fun i => Value.slice (some ⟨g i, 0, none⟩) 2 2)) (by rfl) HR3.out.1.own (some ⟨W1.heap.size + 1, 0, none⟩) 1 1 [.slice (some ⟨W1.heap.size, 0, none⟩) 2 2] (by rfl) (fun h => by cases h) (by rfl) (fun ad h => by cases h; exact HNW.out) (by intro u hu; simp only [List.mem_cons, List.not_mem_nil, or_false] at hu; subst hu; rfl) (by unfold maxLen; omega) (by omega) hsz ?_; intro v9 w9 ho9 hg9))
          have HN9 : Hid (PSt W2 w9 v9 s.ca (k + 1) (fun i => if i = k then W1.heap.size else g i) ∧ Below W2.heap.size W2 w9) := ⟨HR3.out.1.app HM.out hg9 ho9, HR3.out.2.grown hg9 hsz (fun j hj => (World.ownsRow.lt HR3.out.1.own j hj).1)⟩
          clear HR3 HM HNW hsz hw1 z0 z1 ho9 hg9
          go_roundw
          case rel => exact ⟨k + 1, _, by omega, by go_num, HN9.out⟩
          case measure => simp [intOf]; omega
        · obtain rfl : nb = k := by omega
          clear y6
          obtain ⟨vb, vd, rfl, _⟩ := own_form HR.out.1.own
          have HPB : Hid (PRows wr vb s.ca) := by
            have h := HR.out.1
            rw [← HNA.out.2] at h
            exact h.rows
          have HPA' : Hid (PRows wr va s.la) := HPA.out.below HR.out.2
          have HBF : Hid (Below w.heap.size w wr) := after HBW.out HR.out.2
          have b3 := blk_below B2.out HR.out.2
          clear HR HPA HBW B2
          have lA := blk_lt b3
          have x0 : ∀ h : Grown wr, h.val.cell? ⟨w.heap.size, 0, none⟩ = some (.int .i64 s.id) := fun h => (h.bel.cell lA).trans (blk_cell b3 0 _ rfl)
          have x1 : ∀ h : Grown wr, h.val.cell? ⟨w.heap.size, 1, none⟩ = some (.string s.fr) := fun h => (h.bel.cell lA).trans (blk_cell b3 1 _ rfl)
          have x2 : ∀ h : Grown wr, h.val.cell? ⟨w.heap.size, 2, none⟩ = some (.string s.dst) := fun h => (h.bel.cell lA).trans (blk_cell b3 2 _ rfl)
          have x3 : ∀ h : Grown wr, h.val.cell? ⟨w.heap.size, 3, none⟩ = some (.int .i64 s.dep) := fun h => (h.bel.cell lA).trans (blk_cell b3 3 _ rfl)
          have x4 : ∀ h : Grown wr, h.val.cell? ⟨w.heap.size, 4, none⟩ = some (.int .i64 s.arr) := fun h => (h.bel.cell lA).trans (blk_cell b3 4 _ rfl)
          have x7 : ∀ h : Grown wr, h.val.cell? ⟨w.heap.size, 7, none⟩ = some (.int .i64 s.most) := fun h => (h.bel.cell lA).trans (blk_cell b3 7 _ rfl)
          clear b3
          have HRG : Hid _ := sail_rng HG.out
          have rg := HRG.out
          have m0 := numT_size (n := s.id) (by omega) (by omega)
          have m1 := numT_size (n := s.dep) (by omega) (by omega)
          have m2 := numT_size (n := s.arr) (by omega) (by omega)
          have m3 := numT_size (n := s.most) (by omega) (by omega)
          have m4 := pairsT_size (small_la HG.out)
          have m5 := pairsT_size (small_ca HG.out)
          have q1 : (⟨#[32]⟩ : ByteArray).size = 1 := rfl
          have q2 : (⟨#[115, 97, 105, 108, 32]⟩ : ByteArray).size = 5 := rfl
          have m6 := rg.2.2.2.2.1
          have m7 := rg.2.2.2.2.2
          have EF := text_all s
          obtain ⟨a1, ha1⟩ : ∃ z, z = (⟨#[115, 97, 105, 108, 32]⟩ : ByteArray) ++ (numT s.id) := ⟨_, rfl⟩
          have z1 : a1.size ≤ 1 * 7000 := by rw [ha1, ByteArray.size_append]; omega
          have r1 : ∀ W : World, (Op.stringOp .add ⟨#[115, 97, 105, 108, 32]⟩ (numT s.id)).run Tryd.prog W = .ok (.string a1) W := by rw [ha1]; exact add_run _ _ (by omega) (by omega)
          rw [← ha1] at EF
          clear ha1
          obtain ⟨a2, ha2⟩ : ∃ z, z = a1 ++ ⟨#[32]⟩ := ⟨_, rfl⟩
          have z2 : a2.size ≤ 2 * 7000 := by rw [ha2, ByteArray.size_append]; omega
          have r2 : ∀ W : World, (Op.stringOp .add a1 ⟨#[32]⟩).run Tryd.prog W = .ok (.string a2) W := by rw [ha2]; exact add_run _ _ (by omega) (by omega)
          rw [← ha2] at EF
          clear ha2
          obtain ⟨a3, ha3⟩ : ∃ z, z = a2 ++ s.fr := ⟨_, rfl⟩
          have z3 : a3.size ≤ 3 * 7000 := by rw [ha3, ByteArray.size_append]; omega
          have r3 : ∀ W : World, (Op.stringOp .add a2 s.fr).run Tryd.prog W = .ok (.string a3) W := by rw [ha3]; exact add_run _ _ (by omega) (by omega)
          rw [← ha3] at EF
          clear ha3
          obtain ⟨a4, ha4⟩ : ∃ z, z = a3 ++ ⟨#[32]⟩ := ⟨_, rfl⟩
          have z4 : a4.size ≤ 4 * 7000 := by rw [ha4, ByteArray.size_append]; omega
          have r4 : ∀ W : World, (Op.stringOp .add a3 ⟨#[32]⟩).run Tryd.prog W = .ok (.string a4) W := by rw [ha4]; exact add_run _ _ (by omega) (by omega)
          rw [← ha4] at EF
          clear ha4
          obtain ⟨a5, ha5⟩ : ∃ z, z = a4 ++ s.dst := ⟨_, rfl⟩
          have z5 : a5.size ≤ 5 * 7000 := by rw [ha5, ByteArray.size_append]; omega
          have r5 : ∀ W : World, (Op.stringOp .add a4 s.dst).run Tryd.prog W = .ok (.string a5) W := by rw [ha5]; exact add_run _ _ (by omega) (by omega)
          rw [← ha5] at EF
          clear ha5
          obtain ⟨a6, ha6⟩ : ∃ z, z = a5 ++ ⟨#[32]⟩ := ⟨_, rfl⟩
          have z6 : a6.size ≤ 6 * 7000 := by rw [ha6, ByteArray.size_append]; omega
          have r6 : ∀ W : World, (Op.stringOp .add a5 ⟨#[32]⟩).run Tryd.prog W = .ok (.string a6) W := by rw [ha6]; exact add_run _ _ (by omega) (by omega)
          rw [← ha6] at EF
          clear ha6
          obtain ⟨a7, ha7⟩ : ∃ z, z = a6 ++ (numT s.dep) := ⟨_, rfl⟩
          have z7 : a7.size ≤ 7 * 7000 := by rw [ha7, ByteArray.size_append]; omega
          have r7 : ∀ W : World, (Op.stringOp .add a6 (numT s.dep)).run Tryd.prog W = .ok (.string a7) W := by rw [ha7]; exact add_run _ _ (by omega) (by omega)
          rw [← ha7] at EF
          clear ha7
          obtain ⟨a8, ha8⟩ : ∃ z, z = a7 ++ ⟨#[32]⟩ := ⟨_, rfl⟩
          have z8 : a8.size ≤ 8 * 7000 := by rw [ha8, ByteArray.size_append]; omega
          have r8 : ∀ W : World, (Op.stringOp .add a7 ⟨#[32]⟩).run Tryd.prog W = .ok (.string a8) W := by rw [ha8]; exact add_run _ _ (by omega) (by omega)
          rw [← ha8] at EF
          clear ha8
          obtain ⟨a9, ha9⟩ : ∃ z, z = a8 ++ (numT s.arr) := ⟨_, rfl⟩
          have z9 : a9.size ≤ 9 * 7000 := by rw [ha9, ByteArray.size_append]; omega
          have r9 : ∀ W : World, (Op.stringOp .add a8 (numT s.arr)).run Tryd.prog W = .ok (.string a9) W := by rw [ha9]; exact add_run _ _ (by omega) (by omega)
          rw [← ha9] at EF
          clear ha9
          obtain ⟨a10, ha10⟩ : ∃ z, z = a9 ++ ⟨#[32]⟩ := ⟨_, rfl⟩
          have z10 : a10.size ≤ 10 * 7000 := by rw [ha10, ByteArray.size_append]; omega
          have r10 : ∀ W : World, (Op.stringOp .add a9 ⟨#[32]⟩).run Tryd.prog W = .ok (.string a10) W := by rw [ha10]; exact add_run _ _ (by omega) (by omega)
          rw [← ha10] at EF
          clear ha10
          obtain ⟨a11, ha11⟩ : ∃ z, z = a10 ++ (numT s.most) := ⟨_, rfl⟩
          have z11 : a11.size ≤ 11 * 7000 := by rw [ha11, ByteArray.size_append]; omega
          have r11 : ∀ W : World, (Op.stringOp .add a10 (numT s.most)).run Tryd.prog W = .ok (.string a11) W := by rw [ha11]; exact add_run _ _ (by omega) (by omega)
          rw [← ha11] at EF
          clear ha11
          obtain ⟨a12, ha12⟩ : ∃ z, z = a11 ++ ⟨#[32]⟩ := ⟨_, rfl⟩
          have z12 : a12.size ≤ 12 * 7000 := by rw [ha12, ByteArray.size_append]; omega
          have r12 : ∀ W : World, (Op.stringOp .add a11 ⟨#[32]⟩).run Tryd.prog W = .ok (.string a12) W := by rw [ha12]; exact add_run _ _ (by omega) (by omega)
          rw [← ha12] at EF
          clear ha12
          obtain ⟨a13, ha13⟩ : ∃ z, z = a12 ++ (pairsT s.la) := ⟨_, rfl⟩
          have z13 : a13.size ≤ 13 * 7000 := by rw [ha13, ByteArray.size_append]; omega
          have r13 : ∀ W : World, (Op.stringOp .add a12 (pairsT s.la)).run Tryd.prog W = .ok (.string a13) W := by rw [ha13]; exact add_run _ _ (by omega) (by omega)
          rw [← ha13] at EF
          clear ha13
          obtain ⟨a14, ha14⟩ : ∃ z, z = a13 ++ ⟨#[32]⟩ := ⟨_, rfl⟩
          have z14 : a14.size ≤ 14 * 7000 := by rw [ha14, ByteArray.size_append]; omega
          have r14 : ∀ W : World, (Op.stringOp .add a13 ⟨#[32]⟩).run Tryd.prog W = .ok (.string a14) W := by rw [ha14]; exact add_run _ _ (by omega) (by omega)
          rw [← ha14] at EF
          clear ha14
          obtain ⟨a15, ha15⟩ : ∃ z, z = a14 ++ (pairsT s.ca) := ⟨_, rfl⟩
          have z15 : a15.size ≤ 15 * 7000 := by rw [ha15, ByteArray.size_append]; omega
          have r15 : ∀ W : World, (Op.stringOp .add a14 (pairsT s.ca)).run Tryd.prog W = .ok (.string a15) W := by rw [ha15]; exact add_run _ _ (by omega) (by omega)
          rw [← ha15] at EF
          clear ha15
          have HEF : Hid (a15 = sailT s) := EF
          clear EF rg
          have HN0 : Hid (∀ W : World, Calls Tryd.prog 66 #[.int .i64 s.id] W fun e w' => e = .returned (.string (numT s.id)) ∧ Below W.heap.size W w') := fun W => l1Num_any (by have := HRG.out.1; omega) (by have := HRG.out.1; omega) W
          have HN1 : Hid (∀ W : World, Calls Tryd.prog 66 #[.int .i64 s.dep] W fun e w' => e = .returned (.string (numT s.dep)) ∧ Below W.heap.size W w') := fun W => l1Num_any (by have := HRG.out.2.1; omega) (by have := HRG.out.2.1; omega) W
          have HN2 : Hid (∀ W : World, Calls Tryd.prog 66 #[.int .i64 s.arr] W fun e w' => e = .returned (.string (numT s.arr)) ∧ Below W.heap.size W w') := fun W => l1Num_any (by have := HRG.out.2.2.1; omega) (by have := HRG.out.2.2.1; omega) W
          have HN3 : Hid (∀ W : World, Calls Tryd.prog 66 #[.int .i64 s.most] W fun e w' => e = .returned (.string (numT s.most)) ∧ Below W.heap.size W w') := fun W => l1Num_any (by have := HRG.out.2.2.2.1; omega) (by have := HRG.out.2.2.2.1; omega) W
          have HPP : Hid (∀ h : Grown wr, Calls Tryd.prog 89 #[.slice va na vc] h.val fun e w' => e = .returned (.string (pairsT s.la)) ∧ Below h.val.heap.size h.val w') := fun h => by rw [← HNA.out.1]; exact l11Pairs_any va vc s.la _ (small_la HG.out) (HPA'.out.below h.bel)
          have HPQ : Hid (∀ h : Grown wr, Calls Tryd.prog 89 #[.slice vb nb vd] h.val fun e w' => e = .returned (.string (pairsT s.ca)) ∧ Below h.val.heap.size h.val w') := fun h => by rw [← HNA.out.2]; exact l11Pairs_any vb vd s.ca _ (small_ca HG.out) (HPB.out.below h.bel)
          go_upto_region 12 with fail
          refine wp_region_grow (by kernel_rfl) (by kernel_rfl) ?_
          repeat (first | go_big_quiet_skip | (go_big_quiet_want; go_big_quiet_op; first | go_big_quiet_on | (apply Exists.intro; refine ⟨fun g => ?_, ?_⟩; (focus (first | (go_at_call 66; with_reducible refine grown_call (v := .string (numT s.id)) (HN0.out _)) | (go_at_call 66; with_reducible refine grown_call (v := .string (numT s.dep)) (HN1.out _)) | (go_at_call 66; with_reducible refine grown_call (v := .string (numT s.arr)) (HN2.out _)) | (go_at_call 66; with_reducible refine grown_call (v := .string (numT s.most)) (HN3.out _)) | (go_at_call 89; with_reducible refine grown_call (v := .string (pairsT s.la)) (HPP.out _)) | (go_at_call 89; with_reducible refine grown_call (v := .string (pairsT s.ca)) (HPQ.out _)))); go_big_quiet_on)))
          refine wpQuiet_nil ?_
          rintro _ ⟨h, rfl⟩
          go_wp2
          go_ret
          exact ⟨congrArg (fun z => Ending.returned (Value.string z)) HEF.out, after HBF.out h.bel⟩

set_option maxHeartbeats 1600000 in
set_option maxRecDepth 100000 in
theorem specSText_any (s : Sail) (lo co : Option Addr) (c1 c2 : Nat) (w : World) (hfr : s.fr.size ≤ 1000000000000000) (hto : s.dst.size ≤ 1000000000000000) (hn : s.la.n ≤ 1048576) (hm : s.ca.n ≤ 1048576) (hx : PairsAt w lo s.la) (hy : PairsAt w co s.ca) :
    Calls Tryd.prog 17 #[.agg #[.int .i64 s.id, .string s.fr, .string s.dst, .int .i64 s.dep, .int .i64 s.arr, .slice lo s.la.n c1, .slice co s.ca.n c2, .int .i64 s.most]] w fun e w' => e = .returned (.tuple #[.string (stext s), .bool (goodS s)]) ∧ Below w.heap.size w w' := by
  have HXY : Hid (PairsAt w lo s.la ∧ PairsAt w co s.ca) := ⟨hx, hy⟩
  have hb0 : Below w.heap.size w (w.alloc (.cells #[.int .i64 s.id, .string s.fr, .string s.dst, .int .i64 s.dep, .int .i64 s.arr, .slice lo s.la.n c1, .slice co s.ca.n c2, .int .i64 s.most] 49)) := push (Below.refl _ _) _
  have b0 := heap_alloc_new w (.cells #[.int .i64 s.id, .string s.fr, .string s.dst, .int .i64 s.dep, .int .i64 s.arr, .slice lo s.la.n c1, .slice co s.ca.n c2, .int .i64 s.most] 49)
  clear hx hy
  go_enter Tryd.func17, Tryd.ntmps17
  go_upto_region 1 with fail
  generalize w.alloc (.cells #[.int .i64 s.id, .string s.fr, .string s.dst, .int .i64 s.dep, .int .i64 s.arr, .slice lo s.la.n c1, .slice co s.ca.n c2, .int .i64 s.most] 49) = W at hb0 b0 ⊢
  have y0 := blk_cell b0 0 _ rfl
  have y1 := blk_cell b0 1 _ rfl
  have y2 := blk_cell b0 2 _ rfl
  have y3 := blk_cell b0 3 _ rfl
  have y4 := blk_cell b0 4 _ rfl
  have y5 := blk_cell b0 5 _ rfl
  have y6 := blk_cell b0 6 _ rfl
  have y7 := blk_cell b0 7 _ rfl
  go_wp2_with fail
  refine (specSailing_any _ _ _ _ _ _ _ _ _ _ _ _ s.la s.ca _ rfl rfl hfr hto hn hm (HXY.out.1.below hb0) (HXY.out.2.below hb0)).mono ?_
  rintro e w2 ⟨⟨q, rfl, hq⟩, hb2⟩
  have HQ : Hid (q = true ↔ GoodSail s) := hq
  have b2 := blk_below b0 hb2
  have hB2 := after hb0 hb2
  clear y0 y1 y2 y3 y4 y5 y6 y7 b0 hb0 hb2 hq
  cases q with
  | false =>
    have hno : ¬ GoodSail s := fun h => by have := HQ.out.2 h; cases this
    have HR : Hid (stext s = ⟨#[]⟩ ∧ goodS s = false) := stext_not hno
    clear hno
    go_wp2
    exact bodyPost_ret (v := .tuple #[.string ⟨#[]⟩, .bool false]) (by simp [results, Tryd.results17, go_sem]) rfl ⟨by rw [HR.out.1, HR.out.2], hB2⟩
  | true =>
    have HG : Hid (GoodSail s) := by first | exact HQ.out.1 rfl | exact HQ.out.1 trivial
    have HR : Hid (stext s = sailT s ∧ goodS s = true) := stext_yes HG.out
    have y0 := blk_cell b2 0 _ rfl
    have y1 := blk_cell b2 1 _ rfl
    have y2 := blk_cell b2 2 _ rfl
    have y3 := blk_cell b2 3 _ rfl
    have y4 := blk_cell b2 4 _ rfl
    have y5 := blk_cell b2 5 _ rfl
    have y6 := blk_cell b2 6 _ rfl
    have y7 := blk_cell b2 7 _ rfl
    go_wp2_with fail
    refine (l11Sail_any s lo co c1 c2 _ HG.out (HXY.out.1.below hB2) (HXY.out.2.below hB2)).mono ?_
    rintro e w4 ⟨rfl, hb4⟩
    go_wp2
    exact bodyPost_ret (v := .tuple #[.string (sailT s), .bool true]) (by simp [results, Tryd.results17, go_sem]) rfl ⟨by rw [HR.out.1, HR.out.2], after hB2 hb4⟩

end Go.Proofs.YtfbooamjddnagaaDoor

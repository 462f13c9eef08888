/-
  OWN TEXT: PutI, SpecOa1.
-/
import Derived.Deep.RegionLawGrows
import Derived.Deep.DeepCutAuto
import Derived.Deep.RegionHeld3
import Derived.Test.YtogbaoggebghdaaB10
import Derived.Test.YtogbaoggebghdaaB11
import Derived.Test.YtogbaoggebghdaaB14
import Derived.Test.YtogbaoggebghdaaB08
import Derived.Test.YtogbaoggebghdaaB04
namespace Go.Proofs.Ytogbaoggebghdaa
open Go.RowKit Classical Go.MapKept Go.ChangeMaps

theorem clkRow_insQ (S : Nat → ClkD) (R : Nat → Value) (k N : Nat) (hk : k ≤ N) (x : ClkD) (rv : Value) :
    insQ ((List.range (N * 7)).map (clkCell S R)) k (.string x.nam) (.int .i64 x.num) (.bool x.opn) (.int .i64 x.code) (.int .i64 x.anam) (.int .i64 x.price) rv = (List.range ((N + 1) * 7)).map (clkCell (insC S k x) (insC R k rv)) := by
  rw [clkRow_ins S R k N hk x rv]
  unfold insQ clkFrom
  have e1 : ((List.range (N * 7)).map (clkCell S R)).take (k * 7) = (List.range (k * 7)).map (clkCell S R) := by
    rw [← List.map_take, List.take_range, Nat.min_eq_left (by omega)]
  have e2 : ((List.range (N * 7)).map (clkCell S R)).drop (k * 7) = (List.range ((N - k) * 7)).map (fun j => clkCell S R (k * 7 + j)) := by
    refine List.ext_getElem? (fun i => ?_)
    rw [List.getElem?_drop, List.getElem?_map, List.getElem?_map]
    by_cases h : i < (N - k) * 7
    · rw [List.getElem?_range (by omega), List.getElem?_range h]; rfl
    · rw [List.getElem?_eq_none (by simp; omega), List.getElem?_eq_none (by simp; omega)]; rfl
  rw [e1, e2]
theorem OwnClks.ins {w w' : World} {base N k : Nat} {v v' rv : Value} {S : Nat → ClkD} {R : Nat → Value} {x : ClkD} (h : OwnClks w base v N S R) (hk : k ≤ N) (hl : w.ownsRow base 84 5 rv x.rwn (rowList x.rw x.rwn)) (hap : ∀ i, i < N → ∀ b, (R i).ownBlock = some b → rv.ownBlock ≠ some b)
    (hg : w.grownBy w' v.ownBlock) (ho : w'.ownsRow base 68 7 v' (N + 1) (insQ ((List.range (N * 7)).map (clkCell S R)) k (.string x.nam) (.int .i64 x.num) (.bool x.opn) (.int .i64 x.code) (.int .i64 x.anam) (.int .i64 x.price) rv)) :
    OwnClks w' base v' (N + 1) (insC S k x) (insC R k rv) := by
  have hkr := kept_row hg
  rw [clkRow_insQ S R k N hk x rv] at ho
  refine ⟨ho, fun i hi => ?_, fun i j hij hj => ?_⟩
  · rcases Nat.lt_trichotomy i k with e | e | e
    · rw [insC_lt _ _ _ e, insC_lt _ _ _ e]; exact hkr.own (h.rows i (by omega)) (fun g hg1 hg2 => own_apart h.row (h.rows i (by omega)) (by decide) g hg2 hg1)
    · subst e; rw [insC_at, insC_at]; exact hkr.own hl (fun g hg1 hg2 => own_apart h.row hl (by decide) g hg2 hg1)
    · rw [insC_gt _ _ _ e, insC_gt _ _ _ e]; exact hkr.own (h.rows (i - 1) (by omega)) (fun g hg1 hg2 => own_apart h.row (h.rows (i - 1) (by omega)) (by decide) g hg2 hg1)
  · intro b h1 h2
    rcases Nat.lt_trichotomy i k with e | e | e
    · rw [insC_lt _ _ _ e] at h1
      rcases Nat.lt_trichotomy j k with f | f | f
      · rw [insC_lt _ _ _ f] at h2; exact h.apart i j hij (by omega) b h1 h2
      · subst f; rw [insC_at] at h2; exact hap i (by omega) b h1 h2
      · rw [insC_gt _ _ _ f] at h2; exact h.apart i (j - 1) (by omega) (by omega) b h1 h2
    · subst e
      rw [insC_at] at h1
      rw [insC_gt _ _ _ hij] at h2
      exact hap (j - 1) (by omega) b h2 h1
    · rw [insC_gt _ _ _ e] at h1
      rw [insC_gt _ _ _ (by omega)] at h2
      exact h.apart (i - 1) (j - 1) (by omega) (by omega) b h1 h2

set_option maxHeartbeats 6400000 in
set_option maxRecDepth 100000 in
theorem put_any (w : World) (base sb mb K : Nat) (ao : Option Addr) (c N : Nat) (S : Nat → ClkD) (R : Nat → Value) (O : ByteArray → Prop) (k : Nat) (x : ClkD) (ra : Option Addr) (rc : Nat) (h : Staff w base sb mb K (.slice ao N c) N S R O) (hN : N ≤ 60) (hK : K ≤ 1000) (hk : k ≤ N) (hnm : x.nam.size ≤ 1048576)
    (hl : w.ownsRow base 84 5 (.slice ra x.rwn rc) x.rwn (rowList x.rw x.rwn)) (hap : ∀ i, i < N → ∀ b, (R i).ownBlock = some b → (Value.slice ra x.rwn rc).ownBlock ≠ some b) :
    Calls Try.prog 66 #[.pointer (some ⟨sb, 0, none⟩), .int .i64 k, .agg #[.string x.nam, .int .i64 x.num, .bool x.opn, .int .i64 x.code, .int .i64 x.anam, .int .i64 x.price, .slice ra x.rwn rc]] w fun e w' => e = .returned (.tuple #[]) ∧
      (∃ a' c', Staff w' base sb mb (K + 1) (.slice a' (N + 1) c') (N + 1) (insC S k x) (insC R k (.slice ra x.rwn rc)) (fun s => O s ∨ (x.opn = true ∧ s = x.nam)) ∧ (∀ g, (Value.slice a' (N + 1) c').ownBlock = some g → (Value.slice ao N c).ownBlock = some g ∨ w.heap.size ≤ g)) ∧
      Kept w w' (fun b => b = sb ∨ b = mb ∨ (Value.slice ao N c).ownBlock = some b) := by
  have HH : Hid (Staff w base sb mb K (.slice ao N c) N S R O) := h
  have HL : Hid (w.ownsRow base 84 5 (.slice ra x.rwn rc) x.rwn (rowList x.rw x.rwn)) := hl
  have HAP : Hid (∀ i, i < N → ∀ b, (R i).ownBlock = some b → (Value.slice ra x.rwn rc).ownBlock ≠ some b) := hap
  have hsw := h.lt
  have hb0 : Below w.heap.size w (w.alloc (.cells #[.string x.nam, .int .i64 x.num, .bool x.opn, .int .i64 x.code, .int .i64 x.anam, .int .i64 x.price, .slice ra x.rwn rc] 68)) := push (Below.refl _ _) _
  have bX : (w.alloc (.cells #[.string x.nam, .int .i64 x.num, .bool x.opn, .int .i64 x.code, .int .i64 x.anam, .int .i64 x.price, .slice ra x.rwn rc] 68)).heap[w.heap.size]? = some (.cells #[.string x.nam, .int .i64 x.num, .bool x.opn, .int .i64 x.code, .int .i64 x.anam, .int .i64 x.price, .slice ra x.rwn rc] 68 (0, 0)) := heap_alloc_new _ _
  clear h hl hap
  go_enter Try.func66, Try.ntmps66
  go_upto_region 1 with fail
  generalize w.alloc (.cells #[.string x.nam, .int .i64 x.num, .bool x.opn, .int .i64 x.code, .int .i64 x.anam, .int .i64 x.price, .slice ra x.rwn rc] 68) = V at hb0 bX ⊢
  have HV : Hid (Staff V base sb mb K (.slice ao N c) N S R O) := HH.out.below hb0
  have hsv := HV.out.lt
  have c2 := blk_cell HV.out.blk 2 _ rfl
  have f2 := blk_free HV.out.blk 2
  go_upto_region 2 with (first | (go_at_call 79; refine (atomAdd_any sb N V c2 f2 (by omega) (by omega)).mono ?_; rintro e w1 ⟨rfl, rfl⟩))
  have bS : (V.setCell ⟨sb, 2, none⟩ (.int .i64 ((N : Int) + 1))).heap[sb]? = some (.cells #[.slice ao N c, .map (some mb), .int .i64 ((N : Int) + 1)] 107 (0, 0)) := by simpa using blk_set HV.out.blk 2 (.int .i64 ((N : Int) + 1))
  have hk1 : Kept V (V.setCell ⟨sb, 2, none⟩ (.int .i64 ((N : Int) + 1))) (fun b => b = sb) := (Kept.refl _ (fun b => b = sb)).set (a := ⟨sb, 2, none⟩) rfl _
  have hxs : w.heap.size ≠ sb := by omega
  have bX1 := hk1.blk bX hxs
  have HO1 : Hid (OwnClks (V.setCell ⟨sb, 2, none⟩ (.int .i64 ((N : Int) + 1))) base (.slice ao N c) N S R) := ⟨hk1.own HV.out.own.row (fun g hg e => HV.out.vs g hg e), fun i hi => hk1.own (HV.out.own.rows i hi) (fun g hg e => HV.out.rs i hi g hg e), HV.out.own.apart⟩
  have HM1 : Hid (SetS (V.setCell ⟨sb, 2, none⟩ (.int .i64 ((N : Int) + 1))) mb K O) := HV.out.set.kept hk1 (fun e => HV.out.sm e.symm)
  have HR1 : Hid ((V.setCell ⟨sb, 2, none⟩ (.int .i64 ((N : Int) + 1))).ownsRow base 84 5 (.slice ra x.rwn rc) x.rwn (rowList x.rw x.rwn)) := hk1.own (own_below hb0 HL.out) (fun g hg e => by
    obtain ⟨cur, hc⟩ := own_blk HL.out hg
    have h2 := HH.out.blk
    rw [e] at hc
    rw [hc] at h2
    simp only [Option.some.injEq, Obj.cells.injEq] at h2
    exact absurd h2.2.1 (by decide))
  have HK1 : Hid (Kept w (V.setCell ⟨sb, 2, none⟩ (.int .i64 ((N : Int) + 1))) (fun b => b = sb)) := (Kept.of_below hb0).trans hk1
  clear c2 f2 bX hk1 hb0
  generalize V.setCell ⟨sb, 2, none⟩ (.int .i64 ((N : Int) + 1)) = Y at bS bX1 HO1 HM1 HR1 HK1 ⊢
  have hwY : w.heap.size < Y.heap.size := blk_lt bX1
  have hsY : sb < Y.heap.size := blk_lt bS
  have y0 := blk_cell bX1 0 _ rfl
  have y1 := blk_cell bX1 1 _ rfl
  have y2 := blk_cell bX1 2 _ rfl
  have y3 := blk_cell bX1 3 _ rfl
  have y4 := blk_cell bX1 4 _ rfl
  have y5 := blk_cell bX1 5 _ rfl
  have y6 := blk_cell bX1 6 _ rfl
  have s0 := blk_cell bS 0 _ rfl
  have HINS : Hid (∀ Z, Z.heap[Y.heap.size]? = some (.cells #[.string x.nam, .int .i64 x.num, .bool x.opn, .int .i64 x.code, .int .i64 x.anam, .int .i64 x.price, .slice ra x.rwn rc] 68 (0, 0)) → Below Y.heap.size Y Z → Calls Try.prog 80 #[.slice ao N c, .int .i64 k, .slice (some ⟨Y.heap.size, 0, none⟩) 1 1] Z fun e w3 => ∃ a3 c3, e = .returned (.slice a3 (N + 1) c3) ∧ w3.heap[sb]? = some (.cells #[.slice ao N c, .map (some mb), .int .i64 ((N : Int) + 1)] 107 (0, 0)) ∧ Hid (w3.heap[w.heap.size]? = some (.cells #[.string x.nam, .int .i64 x.num, .bool x.opn, .int .i64 x.code, .int .i64 x.anam, .int .i64 x.price, .slice ra x.rwn rc] 68 (0, 0)) ∧ OwnClks w3 base (.slice a3 (N + 1) c3) (N + 1) (insC S k x) (insC R k (.slice ra x.rwn rc)) ∧ SetS w3 mb K O ∧ Kept Y w3 (fun b => (Value.slice ao N c).ownBlock = some b) ∧ (∀ g, (Value.slice a3 (N + 1) c3).ownBlock = some g → (Value.slice ao N c).ownBlock = some g ∨ Y.heap.size ≤ g))) := by
    intro Z hz hZ
    have hoz := HO1.out.below hZ
    have hne : (Value.slice ao N c).ownBlock ≠ some Y.heap.size := fun e => by have := (HO1.out.row.lt _ e).2; omega
    refine (insertQ_any ao N c k base Y.heap.size (.string x.nam) (.int .i64 x.num) (.bool x.opn) (.int .i64 x.code) (.int .i64 x.anam) (.int .i64 x.price) (.slice ra x.rwn rc) (by intro u hu; simp only [List.mem_cons, List.not_mem_nil, or_false] at hu; rcases hu with rfl | rfl | rfl | rfl | rfl | rfl | rfl <;> rfl) _ Z hk (by omega) hoz.row (clkRow_one S R N (fun i hi => by obtain ⟨a9, c9, e9, _⟩ := own_form (hoz.rows i hi); rw [e9]; rfl)) hz hne (by have := HV.out.hsb; have := hZ.size; omega)).mono ?_
    rintro e w3 ⟨v3, rfl, ho3, hg3, hat3⟩
    obtain ⟨a3, c3, rfl, _⟩ := own_form ho3
    have hk3 := kept_row hg3
    have hkY : Kept Y w3 (fun b => (Value.slice ao N c).ownBlock = some b) := (Kept.of_below hZ).trans hk3
    refine ⟨a3, c3, rfl, hkY.blk bS (fun e => ?_), hkY.blk bX1 (fun e => ?_), hoz.ins hk (own_below hZ HR1.out) HAP.out hg3 ho3, HM1.out.kept hkY (fun e => ?_), hkY, fun g hg => (hat3 g hg).imp_right (fun h => Nat.le_trans hZ.size h)⟩
    · exact HH.out.vs sb e rfl
    · have := (HH.out.own.row.lt _ e).2; omega
    · exact HH.out.vm mb e rfl
  go_region_law (first
    | (go_simp; go_at_call 80; (with_reducible refine Calls.mono (HINS.out _ ?_ ?_) ?_); (focus (first | exact heap_alloc_new Y _ | exact heap_alloc_new _ _)); (focus (repeat (first | exact Below.refl _ _ | refine Below.drew ?_ | refine push ?_ _))); rintro e w3 ⟨a3, c3, rfl, bS3, H3⟩; have t0 := blk_cell bS3 0 _ rfl; have tf := blk_free bS3 0; dsimp only))
  all_goals
    have bS4 : (w3.setCell ⟨sb, 0, none⟩ (.slice a3 (N + 1) c3)).heap[sb]? = some (.cells #[.slice a3 (N + 1) c3, .map (some mb), .int .i64 ((N : Int) + 1)] 107 (0, 0)) := by simpa using blk_set bS3 0 (.slice a3 (N + 1) c3)
    have hk4 : Kept w3 (w3.setCell ⟨sb, 0, none⟩ (.slice a3 (N + 1) c3)) (fun b => b = sb) := (Kept.refl _ (fun b => b = sb)).set (a := ⟨sb, 0, none⟩) rfl _
    have hsb4 : ∀ e t n v (xs : List Value), w3.ownsRow base e t v n xs → e ≠ 107 → ∀ g, v.ownBlock = some g → ¬ g = sb := by
      rintro e t n v xs ho hne g hg rfl
      obtain ⟨cur, hc⟩ := own_blk ho hg
      rw [hc] at bS3
      simp only [Option.some.injEq, Obj.cells.injEq] at bS3
      exact hne bS3.2.1
    have HT : Hid (Staff (w3.setCell ⟨sb, 0, none⟩ (.slice a3 (N + 1) c3)) base sb mb K (.slice a3 (N + 1) c3) (N + 1) (insC S k x) (insC R k (.slice ra x.rwn rc)) O) :=
      ⟨bS4, HH.out.hsb, HH.out.hmb, ⟨hk4.own H3.out.2.1.row (hsb4 _ _ _ _ _ H3.out.2.1.row (by decide)), fun i hi => hk4.own (H3.out.2.1.rows i hi) (hsb4 _ _ _ _ _ (H3.out.2.1.rows i hi) (by decide)), H3.out.2.1.apart⟩, H3.out.2.2.1.kept hk4 (fun e => HH.out.sm e.symm)⟩
    have bX4 := hk4.blk H3.out.1 hxs
    have HKE : Hid (Kept w (w3.setCell ⟨sb, 0, none⟩ (.slice a3 (N + 1) c3)) (fun b => b = sb ∨ b = mb ∨ (Value.slice ao N c).ownBlock = some b)) := ((HK1.out.mono (fun b e => Or.inl e)).trans (H3.out.2.2.2.1.mono (fun b e => Or.inr (Or.inr e)))).trans (hk4.mono (fun b e => Or.inl e))
    have HAT : Hid (∀ g, (Value.slice a3 (N + 1) c3).ownBlock = some g → (Value.slice ao N c).ownBlock = some g ∨ w.heap.size ≤ g) := fun g hg => (H3.out.2.2.2.2 g hg).imp_right (fun h => by omega)
    clear t0 tf bS3 H3 hk4 hsb4
    generalize w3.setCell ⟨sb, 0, none⟩ (.slice a3 (N + 1) c3) = F at bS4 HT bX4 HKE ⊢
    have q2 := blk_cell bX4 2 _ rfl
    have q0 := blk_cell bX4 0 _ rfl
    have m1 := blk_cell bS4 1 _ rfl
    cases ho : x.opn with
    | false =>
      rw [ho] at q2
      go_wp2
      go_end0
      exact ⟨rfl, ⟨a3, c3, ⟨HT.out.blk, HT.out.hsb, HT.out.hmb, HT.out.own, by obtain ⟨D, hD, hO⟩ := HT.out.set; exact ⟨D, hD.mono (by omega), fun s => by rw [hO s]; constructor; exact Or.inl; rintro (e | ⟨e, _⟩); exact e; rw [ho] at e; cases e⟩⟩, HAT.out⟩, HKE.out⟩
    | true =>
      rw [ho] at q2
      obtain ⟨D, hD, hO⟩ := HT.out.set
      obtain ⟨w5, hrun, hown5, hg5⟩ := World.ownsMap.update (show F.drew.ownsMap _ _ _ _ _ _ from hD) Try.keyedS Try.underlying100 (by unfold maxLen; omega) (key_text hnm) (val := .agg #[]) unitElem_mk
      have HD5 : Hid (∀ P : ByteArray → Prop, (∀ s, P s ↔ (O s ∨ s = x.nam)) → SetS w5 mb (K + 1) P) := fun P hP => ⟨_, hown5, fun s => by
        rw [hP s]
        by_cases e : s = x.nam
        · subst e
          rw [Maps.has_put_same hD.isMap (strLit_key _)]
          simp
        · rw [Maps.has_put_other (fun h => e (strLit_inj h)), hO s]
          simp [e]⟩
      have hk5 := kept_row hg5
      clear hD hO hown5
      go_wp2
      go_region
      all_goals
        (try go_wp2)
        go_end0
        exact ⟨rfl, ⟨a3, c3, ⟨hk5.blk (show F.drew.heap[sb]? = _ from HT.out.blk) (fun e => by cases e; exact HT.out.sm rfl), HT.out.hsb, HT.out.hmb, ⟨hk5.own (show F.drew.ownsRow _ _ _ _ _ _ from HT.out.own.row) (fun g hg e => by cases e; exact HT.out.vm _ hg rfl), fun i hi => hk5.own (show F.drew.ownsRow _ _ _ _ _ _ from HT.out.own.rows i hi) (fun g hg e => by cases e; exact HT.out.rm i hi _ hg rfl), HT.out.own.apart⟩, HD5.out _ (fun s => by simp [ho])⟩, HAT.out⟩, HKE.out.trans (Kept.mono (show Kept F w5 (fun b => some mb = some b) from ⟨hk5.os, hk5.tape, hk5.output, hk5.size, hk5.block⟩) (fun b e => by cases e; exact Or.inr (Or.inl rfl)))⟩

end Go.Proofs.Ytogbaoggebghdaa

namespace Go.Proofs.Ytogbaoggebghdaa
open Go.RowKit

theorem ans_at3 {w : World} {g t : Nat} {u0 u1 u2 u3 : Value} (h : w.heap[g]? = some (.cells #[u0, u1, u2, u3] t (0, 0))) (v : Value) : (w.setCell ⟨g, 3, none⟩ v).heap[g]? = some (.cells #[u0, u1, u2, v] t (0, 0)) := by simpa using blk_set h 3 v
theorem ans_set {w : World} {g t : Nat} {u0 u1 u2 u3 : Value} (h : w.heap[g]? = some (.cells #[u0, u1, u2, u3] t (0, 0))) (v0 v1 v2 v3 : Value) : ((((w.setCell ⟨g, 0, none⟩ v0).setCell ⟨g, 1, none⟩ v1).setCell ⟨g, 2, none⟩ v2).setCell ⟨g, 3, none⟩ v3).heap[g]? = some (.cells #[v0, v1, v2, v3] t (0, 0)) := by
  have h0 : (w.setCell ⟨g, 0, none⟩ v0).heap[g]? = some (.cells #[v0, u1, u2, u3] t (0, 0)) := by simpa using blk_set h 0 v0
  have h1 : ((w.setCell ⟨g, 0, none⟩ v0).setCell ⟨g, 1, none⟩ v1).heap[g]? = some (.cells #[v0, v1, u2, u3] t (0, 0)) := by simpa using blk_set h0 1 v1
  have h2 : (((w.setCell ⟨g, 0, none⟩ v0).setCell ⟨g, 1, none⟩ v1).setCell ⟨g, 2, none⟩ v2).heap[g]? = some (.cells #[v0, v1, v2, u3] t (0, 0)) := by simpa using blk_set h1 2 v2
  simpa using blk_set h2 3 v3

set_option maxHeartbeats 3200000 in
set_option maxRecDepth 100000 in
theorem l10OwnAns_any (code anam price : Int) (arw : Option Addr) (n crw : Nat) (T : Nat → MRow) (w : World) (hn : n ≤ 1048576) (hnil : arw = none → n = 0 ∧ crw = 0) (hx : MRowsAt w arw n T) :
    Calls Try.prog 47 #[.agg #[.int .i64 code, .int .i64 anam, .int .i64 price, .slice arw n crw]] w fun e w' => (∃ a' c', e = .returned (.agg #[.int .i64 code, .int .i64 anam, .int .i64 price, .slice a' n c']) ∧ w'.ownsRow w.heap.size 84 5 (.slice a' n c') n (rowList T n)) ∧ Below w.heap.size w w' := by
  obtain ⟨l0, li, lz0, lz1, lz2⟩ := info_parts Try.infoRow
  have HX : Hid (MRowsAt w arw n T) := hx
  have HN : Hid (arw = none → n = 0 ∧ crw = 0) := hnil
  clear hx hnil
  have hb0 : Below w.heap.size w ((w.alloc (.cells #[.int .i64 code, .int .i64 anam, .int .i64 price, .slice arw n crw] 28)).alloc (.cells #[.int .i64 0, .int .i64 0, .int .i64 0, .slice none 0 0] 28)) := push (push (Below.refl _ _) _) _
  have bA : ((w.alloc (.cells #[.int .i64 code, .int .i64 anam, .int .i64 price, .slice arw n crw] 28)).alloc (.cells #[.int .i64 0, .int .i64 0, .int .i64 0, .slice none 0 0] 28)).heap[w.heap.size]? = some (.cells #[.int .i64 code, .int .i64 anam, .int .i64 price, .slice arw n crw] 28 (0, 0)) := blk_alloc (heap_alloc_new w _) _
  have bZ : ((w.alloc (.cells #[.int .i64 code, .int .i64 anam, .int .i64 price, .slice arw n crw] 28)).alloc (.cells #[.int .i64 0, .int .i64 0, .int .i64 0, .slice none 0 0] 28)).heap[w.heap.size + 1]? = some (.cells #[.int .i64 0, .int .i64 0, .int .i64 0, .slice none 0 0] 28 (0, 0)) := by simpa using heap_alloc_new (w.alloc (.cells #[.int .i64 code, .int .i64 anam, .int .i64 price, .slice arw n crw] 28)) _
  go_enter Try.func47, Try.ntmps47
  go_upto_region 1 with fail
  generalize (w.alloc (.cells #[.int .i64 code, .int .i64 anam, .int .i64 price, .slice arw n crw] 28)).alloc (.cells #[.int .i64 0, .int .i64 0, .int .i64 0, .slice none 0 0] 28) = V at hb0 bA bZ ⊢
  have hZV : w.heap.size + 1 < V.heap.size := blk_lt bZ
  have bAe := blk_alloc bA (.cells #[] 84)
  have bZe := blk_alloc bZ (.cells #[] 84)
  have hbe : Below w.heap.size w (V.alloc (.cells #[] 84)) := push hb0 _
  have hbv : Below V.heap.size V (V.alloc (.cells #[] 84)) := push (Below.refl _ _) _
  have x3 := blk_cell bAe 3 _ rfl
  have hE : (V.alloc (.cells #[] 84)).ownsRow V.heap.size 84 5 (.slice (some ⟨V.heap.size, 0, none⟩) 0 0) 0 [] := ⟨rfl, .inr ⟨V.heap.size, 0, #[], rfl, Nat.le_refl _, heap_alloc_new V _, Nat.le_refl _, Nat.zero_le _, rfl, rfl⟩⟩
  have HE : Hid _ := hE
  have HCL : Hid (∀ ad', arw = some ad' → ∀ j u, (rowList T n)[j]? = some u → (V.alloc (.cells #[] 84)).cell? (ad'.add j) = some u) := rows_cells (HX.out.below hbe)
  clear hE
  go_upto_region 2 with (first | (at_builtin; refine wpList_append_any _ (by rfl) (.tmp 3) (.tmp 5) 26 (by rfl) V.heap.size 84 l0 (.agg #[.int .i64 0, .string ⟨#[]⟩, .int .i64 0, .int .i64 0, .int .i64 0]) 5 48 Try.underlying26 li lz0 lz1 lz2 rfl (by decide) _ 0 [] (by rfl) HE.out arw n crw (rowList T n) (by rfl) HN.out (rowList_length _ _) HCL.out (rowList_one _ _) (by unfold maxLen; omega) (by omega) (by simp) ?_; intro v3 w3 ho3 hg3; rw [Nat.zero_add, List.nil_append] at ho3; obtain ⟨a3, e3, rfl, _⟩ := own_form ho3; have bA3 := (kept_row hg3).blk bAe (by simp [Value.ownBlock]; omega); have bZ3 := (kept_row hg3).blk bZe (by simp [Value.ownBlock]; omega); have u3 := blk_cell bA3 3 _ rfl; have f3 := blk_free bA3 3; have hb3 : Below V.heap.size V w3 := hbv.grown hg3 hbv.size (fun j hj => by simp [Value.ownBlock] at hj; omega)))
  have bA4 := ans_at3 bA3 (.slice a3 n e3)
  have hk4 : Kept w3 (w3.setCell ⟨w.heap.size, 3, none⟩ (.slice a3 n e3)) (fun b => b = w.heap.size) := (Kept.refl _ (fun b => b = w.heap.size)).set (a := ⟨w.heap.size, 3, none⟩) rfl _
  have bZ4 := hk4.blk bZ3 (by omega)
  have hb4 : Below w.heap.size w (w3.setCell ⟨w.heap.size, 3, none⟩ (.slice a3 n e3)) := (after hb0 hb3).setCell (p := ⟨w.heap.size, 3, none⟩) (Nat.le_refl _) _
  have hl4 : (w3.setCell ⟨w.heap.size, 3, none⟩ (.slice a3 n e3)).ownsRow (w.heap.size + 1 + 1) 84 5 (.slice a3 n e3) n (rowList T n) := own_base (own_set ho3 (a := ⟨w.heap.size, 3, none⟩) (by show w.heap.size < V.heap.size; omega) _) (by omega)
  generalize w3.setCell ⟨w.heap.size, 3, none⟩ (.slice a3 n e3) = W4 at bA4 bZ4 hb4 hl4 ⊢
  clear bA3 u3 f3 hb3 ho3 hg3 x3 bAe bZe bZ3 hbe hbv HE HCL hk4
  have y0 := blk_cell bA4 0 _ rfl
  have y1 := blk_cell bA4 1 _ rfl
  have y2 := blk_cell bA4 2 _ rfl
  have y3 := blk_cell bA4 3 _ rfl
  have z0 := blk_cell bZ4 0 _ rfl
  have z1 := blk_cell bZ4 1 _ rfl
  have z2 := blk_cell bZ4 2 _ rfl
  have z3 := blk_cell bZ4 3 _ rfl
  have f0 := blk_free bZ4 0
  have f1 := blk_free bZ4 1
  have f2 := blk_free bZ4 2
  have f3 := blk_free bZ4 3
  go_wp2
  have rF := ans_set bZ4 (.int .i64 code) (.int .i64 anam) (.int .i64 price) (.slice a3 n e3)
  have hFb : Below w.heap.size w ((((W4.setCell ⟨w.heap.size + 1, 0, none⟩ (.int .i64 code)).setCell ⟨w.heap.size + 1, 1, none⟩ (.int .i64 anam)).setCell ⟨w.heap.size + 1, 2, none⟩ (.int .i64 price)).setCell ⟨w.heap.size + 1, 3, none⟩ (.slice a3 n e3)) := (((hb4.setCell (p := ⟨w.heap.size + 1, 0, none⟩) (by show w.heap.size ≤ w.heap.size + 1; omega) _).setCell (p := ⟨w.heap.size + 1, 1, none⟩) (by show w.heap.size ≤ w.heap.size + 1; omega) _).setCell (p := ⟨w.heap.size + 1, 2, none⟩) (by show w.heap.size ≤ w.heap.size + 1; omega) _).setCell (p := ⟨w.heap.size + 1, 3, none⟩) (by show w.heap.size ≤ w.heap.size + 1; omega) _
  have hFo : ((((W4.setCell ⟨w.heap.size + 1, 0, none⟩ (.int .i64 code)).setCell ⟨w.heap.size + 1, 1, none⟩ (.int .i64 anam)).setCell ⟨w.heap.size + 1, 2, none⟩ (.int .i64 price)).setCell ⟨w.heap.size + 1, 3, none⟩ (.slice a3 n e3)).ownsRow w.heap.size 84 5 (.slice a3 n e3) n (rowList T n) := own_base (own_set (own_set (own_set (own_set hl4 (a := ⟨w.heap.size + 1, 0, none⟩) (by show w.heap.size + 1 < w.heap.size + 1 + 1; omega) _) (a := ⟨w.heap.size + 1, 1, none⟩) (by show w.heap.size + 1 < w.heap.size + 1 + 1; omega) _) (a := ⟨w.heap.size + 1, 2, none⟩) (by show w.heap.size + 1 < w.heap.size + 1 + 1; omega) _) (a := ⟨w.heap.size + 1, 3, none⟩) (by show w.heap.size + 1 < w.heap.size + 1 + 1; omega) _) (by omega)
  generalize (((W4.setCell ⟨w.heap.size + 1, 0, none⟩ (.int .i64 code)).setCell ⟨w.heap.size + 1, 1, none⟩ (.int .i64 anam)).setCell ⟨w.heap.size + 1, 2, none⟩ (.int .i64 price)).setCell ⟨w.heap.size + 1, 3, none⟩ (.slice a3 n e3) = F at rF hFb hFo ⊢
  have z0 := blk_cell rF 0 _ rfl
  have z1 := blk_cell rF 1 _ rfl
  have z2 := blk_cell rF 2 _ rfl
  have z3 := blk_cell rF 3 _ rfl
  exact bodyPost_ret (v := .agg #[.int .i64 code, .int .i64 anam, .int .i64 price, .slice a3 n e3]) (by simp [results, Try.results47, go_sem, z0, z1, z2, z3]) rfl ⟨⟨_, _, rfl, hFo⟩, hFb⟩

end Go.Proofs.Ytogbaoggebghdaa

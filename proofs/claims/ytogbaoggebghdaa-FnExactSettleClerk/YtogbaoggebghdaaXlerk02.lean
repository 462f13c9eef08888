/-
  OWN TEXT: SpecSet, OwnAny.
-/
import Derived.Deep.Slices
import Derived.Test.YtogbaoggebghdaaB19
import Derived.Test.YtogbaoggebghdaaB16
import Derived.Test.YtogbaoggebghdaaXlerk01
import Derived.Test.YtogbaoggebghdaaB00
namespace Go.Proofs.Ytogbaoggebghdaa
open Go.RowKit Classical

set_option maxHeartbeats 6400000 in
set_option maxRecDepth 100000 in
theorem specSettle_any (ao : Option Addr) (N c : Nat) (S : Nat → ClkD) (nm : ByteArray) (a : AnsD) (arw : Option Addr) (crw : Nat) (w : World) (hN : N ≤ 1048576) (hs : ClkDsShort N S 1048576) (hx : ClkDsAt w ao N S) (han : a.rwn ≤ 1048576) (hr : MRowsAt w arw a.rwn a.rw) (hnil : arw = none → a.rwn = 0 ∧ crw = 0) :
    Calls Try.prog 25 #[.slice ao N c, .string nm, .agg #[.int .i64 a.code, .int .i64 a.anam, .int .i64 a.price, .slice arw a.rwn crw]] w fun e w' => (∃ v N' S' R z, e = .returned (.tuple #[v, .int .i64 z]) ∧ OwnClks w' w.heap.size v N' S' R ∧ Hid (SettleIs N S nm a N' S' z)) ∧ Below w.heap.size w w' := by
  have HX : Hid (ClkDsAt w ao N S) := hx
  have HS : Hid (ClkDsShort N S 1048576) := hs
  have HR : Hid (MRowsAt w arw a.rwn a.rw) := hr
  have HNL : Hid (arw = none → a.rwn = 0 ∧ crw = 0) := hnil
  clear hx hs hr hnil
  obtain ⟨q, hq⟩ : ∃ q : Bool, q = clerksOk N S := ⟨_, rfl⟩
  have HQ : Hid (clerksOk N S = q) := hq.symm
  have HV : Hid (q = true ↔ ClerksOk N S) := by rw [hq]; exact decide_eq_true_iff
  clear hq
  have bX := heap_alloc_new w (.cells #[.int .i64 a.code, .int .i64 a.anam, .int .i64 a.price, .slice arw a.rwn crw] 28)
  have hb0 : Below w.heap.size w (w.alloc (.cells #[.int .i64 a.code, .int .i64 a.anam, .int .i64 a.price, .slice arw a.rwn crw] 28)) := push (Below.refl _ _) _
  go_enter Try.func25, Try.ntmps25
  go_upto_region 1 with fail
  generalize w.alloc (.cells #[.int .i64 a.code, .int .i64 a.anam, .int .i64 a.price, .slice arw a.rwn crw] 28) = W0 at bX hb0 ⊢
  obtain ⟨xB, hxB⟩ : ∃ u, u = w.heap.size := ⟨_, rfl⟩
  rw [← hxB] at bX ⊢
  have HxB : Hid (xB = w.heap.size) := hxB
  clear hxB
  go_wp2_with fail
  refine (specGoodC_any ao N c S _ hN HS.out (HX.out.below (HxB.out ▸ hb0))).mono ?_
  rintro e w1 ⟨he, hb1⟩
  rw [HQ.out] at he
  subst he
  clear HQ
  have bw1 : Below w.heap.size w w1 := after hb0 hb1
  have bX1 := blk_below bX hb1
  clear hb0 hb1 bX
  cases q with
  | false =>
    have HG : Hid (¬ ClerksOk N S) := fun h => by have := HV.out.2 h; cases this
    go_wp2
    exact bodyPost_ret (v := .tuple #[.slice none 0 0, .int .i64 2]) (by simp [results, Try.results25, go_sem]) rfl ⟨⟨_, 0, S, fun _ => .slice none 0 0, 2, rfl, OwnClks.nil _ _ _ _, .inl ⟨HG.out, rfl, rfl⟩⟩, bw1⟩
  | true =>
    have HG : Hid (ClerksOk N S) := HV.out.1 rfl
    clear HV
    go_wp2_with fail
    refine (l10Own_any ao N c S _ hN HS.out (HX.out.below bw1)).mono ?_
    rintro e w2 ⟨⟨av, cv, R, rfl, hO⟩, hb2⟩
    have bw2 := after bw1 hb2
    have bX2 := blk_below bX1 hb2
    have hO2 : OwnClks w2 w.heap.size (.slice av N cv) N S R := hO.lower bw1.size
    have HW1 : Hid (w.heap.size ≤ w1.heap.size) := bw1.size
    have HSEP : Hid (xB < w1.heap.size) := blk_lt bX1
    have HO1 : Hid (OwnClks w2 w1.heap.size (.slice av N cv) N S R) := hO
    clear hb2 bX1 hO bw1
    go_wp2_with fail
    refine (l10At_any av N cv S nm _ hN hO2.at).mono ?_
    rintro e w3 ⟨⟨p, rfl, hp⟩, hb3⟩
    have bw3 := after bw2 hb3
    have bX3 := blk_below bX2 hb3
    have hO3 := hO2.below hb3
    have HO3 : Hid (OwnClks w3 w1.heap.size (.slice av N cv) N S R) := HO1.out.below hb3
    clear hb3 bw2 bX2 hO2 HO1
    rcases hp.out with ⟨k, hk, rfl, _⟩ | ⟨rfl, _⟩
    · obtain ⟨g, rfl, hg1, hg2⟩ := own_addr HO3.out.row (by omega)
      have c2 := own_cell HO3.out.row (k * 7 + 2) (by omega) rfl
      rw [clkCell_2] at c2
      have i0 : (0 : Int) ≤ (k : Int) := by omega
      have i2 : (k : Int) < (N : Int) := by omega
      have dk : decide ((k : Int) < 0) = false := by simp
      cases ho : (S k).opn with
      | false =>
        rw [ho] at c2
        go_wp2
        exact bodyPost_ret (v := .tuple #[_, .int .i64 3]) (by simp [results, Try.results25, go_sem]) rfl ⟨⟨_, N, S, R, 3, rfl, hO3, .inr ⟨HG.out, rfl, k, hp.out, .inr ⟨.inr ⟨k, hk, rfl, ho⟩, rfl, fun _ _ => rfl⟩⟩⟩, bw3⟩
      | true =>
        rw [ho] at c2
        have f2 : w3.frozen? ⟨g, k * 7 + 2, none⟩ = false := HO3.out.row.frozenAt (k * 7 + 2)
        have HSX : Hid (xB ≠ g) := fun e => by have := HSEP.out; omega
        have hk4 : Kept w3 (w3.setCell ⟨g, k * 7 + 2, none⟩ (.bool false)) (fun x => x = g) := (Kept.refl w3 (fun x => x = g)).set (a := ⟨g, k * 7 + 2, none⟩) rfl _
        have bX4 := hk4.blk bX3 HSX.out
        have bw4 : Below w.heap.size w (w3.setCell ⟨g, k * 7 + 2, none⟩ (.bool false)) := bw3.setCell (p := ⟨g, k * 7 + 2, none⟩) (by show w.heap.size ≤ g; have := (hO3.row.lt g rfl).1; omega) _
        have HO4 : Hid (OwnClks (w3.setCell ⟨g, k * 7 + 2, none⟩ (.bool false)) w1.heap.size (.slice (some ⟨g, 0, none⟩) N cv) N (putC S k ((S k).shut false)) R) := HO3.out.put1 false
        go_upto_region 8 with fail
        generalize w3.setCell ⟨g, k * 7 + 2, none⟩ (.bool false) = W4 at bX4 bw4 HO4 hk4 ⊢
        clear c2 f2 bX3 hO3
        have x0 := blk_cell bX4 0 _ rfl
        have x1 := blk_cell bX4 1 _ rfl
        have x2 := blk_cell bX4 2 _ rfl
        have x3 := blk_cell bX4 3 _ rfl
        go_wp2_with fail
        refine (l10OwnAns_any a.code a.anam a.price arw a.rwn crw a.rw _ han HNL.out (HR.out.below bw4)).mono ?_
        rintro e W5 ⟨⟨a', c', rfl, ho5⟩, hb5⟩
        have HO5 : Hid (OwnClks W5 w1.heap.size (.slice (some ⟨g, 0, none⟩) N cv) N (putC S k ((S k).shut false)) R) := HO4.out.below hb5
        have bw5 := after bw4 hb5
        have y3 := own_cell HO5.out.row (k * 7 + 3) (by omega) rfl
        have y4 := own_cell HO5.out.row (k * 7 + 4) (by omega) rfl
        have y5 := own_cell HO5.out.row (k * 7 + 5) (by omega) rfl
        have y6 := own_cell HO5.out.row (k * 7 + 6) (by omega) rfl
        have f3 := HO5.out.row.frozenAt (k * 7 + 3)
        have f4 := HO5.out.row.frozenAt (k * 7 + 4)
        have f5 := HO5.out.row.frozenAt (k * 7 + 5)
        have f6 := HO5.out.row.frozenAt (k * 7 + 6)
        have hF := HO5.out.put4 (k := k) (rv := .slice a' a.rwn c') (lim := W4.heap.size) a (fun i hi b hb => ((HO4.out.rows i hi).lt b hb).2) ho5 (by have := (HO4.out.row.lt g rfl).1; have := (HO4.out.row.lt g rfl).2; omega)
        rw [putC_put, putC_at] at hF
        have HF : Hid _ := hF
        clear hF
        have hbF : Below w.heap.size w ((((W5.setCell ⟨g, k * 7 + 3, none⟩ (.int .i64 a.code)).setCell ⟨g, k * 7 + 4, none⟩ (.int .i64 a.anam)).setCell ⟨g, k * 7 + 5, none⟩ (.int .i64 a.price)).setCell ⟨g, k * 7 + 6, none⟩ (.slice a' a.rwn c')) :=
          Kept.below bw5 bw5.size (((((Kept.refl W5 (fun x => x = g)).set (a := ⟨g, k * 7 + 3, none⟩) rfl _).set (a := ⟨g, k * 7 + 4, none⟩) rfl _).set (a := ⟨g, k * 7 + 5, none⟩) rfl _).set (a := ⟨g, k * 7 + 6, none⟩) rfl _) (fun b e => by have e : b = g := e; have := HW1.out; omega)
        go_wp2
        exact bodyPost_ret (v := .tuple #[_, .int .i64 0]) (by simp [results, Try.results25, go_sem]) rfl ⟨⟨_, N, _, _, 0, rfl, HF.out.lower HW1.out, .inr ⟨HG.out, rfl, k, hp.out, .inl ⟨k, hk, rfl, ho, rfl, fun _ _ => rfl⟩⟩⟩, hbF⟩
    · go_wp2
      exact bodyPost_ret (v := .tuple #[_, .int .i64 3]) (by simp [results, Try.results25, go_sem]) rfl ⟨⟨_, N, S, R, 3, rfl, hO3, .inr ⟨HG.out, rfl, -1, hp.out, .inr ⟨.inl rfl, rfl, fun _ _ => rfl⟩⟩⟩, bw3⟩

end Go.Proofs.Ytogbaoggebghdaa

namespace Go.Proofs.Ytogbaoggebghdaa
open Go.RowKit

/-- The block b, from base on, is a row of n elements, of a form. -/
def OwnAny (w : World) (base t sz b n : Nat) (Q : List Value → Prop) : Prop := ∃ xs, Q xs ∧ w.ownsRow base t sz (.slice (some ⟨b, 0, none⟩) n n) n xs
theorem own_block {w : World} {base t sz b n : Nat} {xs : List Value} (h : w.ownsRow base t sz (.slice (some ⟨b, 0, none⟩) n n) n xs) : ∃ cur, w.heap[b]? = some (.cells cur t (0, 0)) ∧ cur.size = n * sz := by
  rcases h.2 with ⟨h0, _⟩ | ⟨g, cap, cur, hv, _, hg, _, _, hs, _⟩
  · cases h0
  · simp only [Value.slice.injEq, Option.some.injEq, Addr.mk.injEq] at hv
    obtain ⟨⟨rfl, _, _⟩, _, rfl⟩ := hv
    exact ⟨cur, hg, hs⟩
theorem OwnAny.lt {w : World} {base t sz b n : Nat} {Q : List Value → Prop} (h : OwnAny w base t sz b n Q) : b < w.heap.size := by
  obtain ⟨xs, _, ho⟩ := h
  obtain ⟨cur, hg, _⟩ := own_block ho
  exact blk_lt hg
/-- Another row, or itself, is marked. -/
theorem OwnAny.after {w w' : World} {base t sz b n t' sz' g n' : Nat} {Q Q' : List Value → Prop} (h : OwnAny w base t sz b n Q) (hg : OwnAny w base t' sz' g n' Q') (hk : Kept w w' (fun x => x = g)) (hz : 0 < sz) (he : t = t' → sz = sz') (hs : t = t' → n = n' → OwnAny w' base t sz g n Q) : OwnAny w' base t sz b n Q := by
  by_cases e : b = g
  · subst e
    obtain ⟨xs, hq, ho⟩ := h
    obtain ⟨ys, hq', ho'⟩ := hg
    obtain ⟨c1, g1, s1⟩ := own_block ho
    obtain ⟨c2, g2, s2⟩ := own_block ho'
    rw [g1] at g2
    simp only [Option.some.injEq, Obj.cells.injEq] at g2
    obtain ⟨rfl, rfl, _⟩ := g2
    obtain rfl := he rfl
    exact hs rfl (Nat.eq_of_mul_eq_mul_right hz (s1.symm.trans s2))
  · obtain ⟨xs, hq, ho⟩ := h
    exact ⟨xs, hq, hk.own ho (fun b' hb' e' => by simp only [Value.ownBlock, Option.some.injEq] at hb'; omega)⟩
theorem OwnAny.kept {w w' : World} {base t sz b n : Nat} {Q : List Value → Prop} {T : Nat → Prop} (h : OwnAny w base t sz b n Q) (hk : Kept w w' T) (hT : ¬ T b) : OwnAny w' base t sz b n Q := by
  obtain ⟨xs, hq, ho⟩ := h
  exact ⟨xs, hq, hk.own ho (fun b' hb' e' => by simp only [Value.ownBlock, Option.some.injEq] at hb'; subst hb'; exact hT e')⟩

end Go.Proofs.Ytogbaoggebghdaa

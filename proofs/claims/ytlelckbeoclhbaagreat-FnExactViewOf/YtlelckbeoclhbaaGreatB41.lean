/-
  OWN TEXT: CopyB, OffI, OfficeI.
-/
import Derived.Deep.DeepCutAuto
import Derived.Deep.RegionHeld3
import Derived.Test.YtlelckbeoclhbaaGreatB02
import Derived.Test.YtlelckbeoclhbaaGreatB25
import Derived.Test.YtlelckbeoclhbaaGreatB27
import Derived.Test.YtlelckbeoclhbaaGreatB06
import Derived.Test.YtlelckbeoclhbaaGreatB21
import Derived.Test.YtlelckbeoclhbaaGreatB23
import Derived.Test.YtlelckbeoclhbaaGreatB24
import Derived.Test.YtlelckbeoclhbaaGreatB26
import Derived.Test.YtlelckbeoclhbaaGreatB16
set_option maxHeartbeats 12800000
set_option maxRecDepth 100000
namespace Go.Proofs.YtlelckbeoclhbaaGreat
open Go.RowKit
theorem Tryz.sizeBk : (Tryz.prog.info? 72).map (·.size) = some 13 := by kernel_rfl
theorem copyBooking_any (y : Book) (ad : Addr) (lc : Nat) (w : World) (hn : y.lgn ≤ 1048576) (hx : IntsAt w (some ad) y.lgn y.lg) :
    Calls Tryz.prog 27 #[.agg #[.int .i64 y.name, .int .i64 y.who, .string y.own, .slice (some ad) y.lgn lc, .int .i64 y.pe, .int .i64 y.len, .int .i64 y.hei, .int .i64 y.cl, .bool y.all, .int .i64 y.be, .int .i64 y.state, .int .i64 y.unt, .int .i64 y.price]] w fun e w' => (∃ a3 c3, e = .returned (.agg #[.int .i64 y.name, .int .i64 y.who, .string y.own, .slice a3 y.lgn c3, .int .i64 y.pe, .int .i64 y.len, .int .i64 y.hei, .int .i64 y.cl, .bool y.all, .int .i64 y.be, .int .i64 y.state, .int .i64 y.unt, .int .i64 y.price]) ∧ w'.ownsRow w.heap.size 3 1 (.slice a3 y.lgn c3) y.lgn (intList y.lg y.lgn)) ∧ Below w.heap.size w w' := by
  have hb0 : Below w.heap.size w ((w.alloc (.cells #[.int .i64 y.name, .int .i64 y.who, .string y.own, .slice (some ad) y.lgn lc, .int .i64 y.pe, .int .i64 y.len, .int .i64 y.hei, .int .i64 y.cl, .bool y.all, .int .i64 y.be, .int .i64 y.state, .int .i64 y.unt, .int .i64 y.price] 72)).alloc (.cells #[.int .i64 0, .int .i64 0, .string ⟨#[]⟩, .slice none 0 0, .int .i64 0, .int .i64 0, .int .i64 0, .int .i64 0, .bool false, .int .i64 0, .int .i64 0, .int .i64 0, .int .i64 0] 72)) := push (push (Below.refl _ _) _) _
  have bX : ((w.alloc (.cells #[.int .i64 y.name, .int .i64 y.who, .string y.own, .slice (some ad) y.lgn lc, .int .i64 y.pe, .int .i64 y.len, .int .i64 y.hei, .int .i64 y.cl, .bool y.all, .int .i64 y.be, .int .i64 y.state, .int .i64 y.unt, .int .i64 y.price] 72)).alloc (.cells #[.int .i64 0, .int .i64 0, .string ⟨#[]⟩, .slice none 0 0, .int .i64 0, .int .i64 0, .int .i64 0, .int .i64 0, .bool false, .int .i64 0, .int .i64 0, .int .i64 0, .int .i64 0] 72)).heap[w.heap.size]? = some (.cells #[.int .i64 y.name, .int .i64 y.who, .string y.own, .slice (some ad) y.lgn lc, .int .i64 y.pe, .int .i64 y.len, .int .i64 y.hei, .int .i64 y.cl, .bool y.all, .int .i64 y.be, .int .i64 y.state, .int .i64 y.unt, .int .i64 y.price] 72 (0, 0)) := blk_alloc (heap_alloc_new w _) _
  have bR : ((w.alloc (.cells #[.int .i64 y.name, .int .i64 y.who, .string y.own, .slice (some ad) y.lgn lc, .int .i64 y.pe, .int .i64 y.len, .int .i64 y.hei, .int .i64 y.cl, .bool y.all, .int .i64 y.be, .int .i64 y.state, .int .i64 y.unt, .int .i64 y.price] 72)).alloc (.cells #[.int .i64 0, .int .i64 0, .string ⟨#[]⟩, .slice none 0 0, .int .i64 0, .int .i64 0, .int .i64 0, .int .i64 0, .bool false, .int .i64 0, .int .i64 0, .int .i64 0, .int .i64 0] 72)).heap[w.heap.size + 1]? = some (.cells #[.int .i64 0, .int .i64 0, .string ⟨#[]⟩, .slice none 0 0, .int .i64 0, .int .i64 0, .int .i64 0, .int .i64 0, .bool false, .int .i64 0, .int .i64 0, .int .i64 0, .int .i64 0] 72 (0, 0)) := by
    have h := heap_alloc_new (w.alloc (.cells #[.int .i64 y.name, .int .i64 y.who, .string y.own, .slice (some ad) y.lgn lc, .int .i64 y.pe, .int .i64 y.len, .int .i64 y.hei, .int .i64 y.cl, .bool y.all, .int .i64 y.be, .int .i64 y.state, .int .i64 y.unt, .int .i64 y.price] 72)) (.cells #[.int .i64 0, .int .i64 0, .string ⟨#[]⟩, .slice none 0 0, .int .i64 0, .int .i64 0, .int .i64 0, .int .i64 0, .bool false, .int .i64 0, .int .i64 0, .int .i64 0, .int .i64 0] 72)
    rw [show (w.alloc (.cells #[.int .i64 y.name, .int .i64 y.who, .string y.own, .slice (some ad) y.lgn lc, .int .i64 y.pe, .int .i64 y.len, .int .i64 y.hei, .int .i64 y.cl, .bool y.all, .int .i64 y.be, .int .i64 y.state, .int .i64 y.unt, .int .i64 y.price] 72)).heap.size = w.heap.size + 1 by simp] at h
    exact h
  have hs0 : ((w.alloc (.cells #[.int .i64 y.name, .int .i64 y.who, .string y.own, .slice (some ad) y.lgn lc, .int .i64 y.pe, .int .i64 y.len, .int .i64 y.hei, .int .i64 y.cl, .bool y.all, .int .i64 y.be, .int .i64 y.state, .int .i64 y.unt, .int .i64 y.price] 72)).alloc (.cells #[.int .i64 0, .int .i64 0, .string ⟨#[]⟩, .slice none 0 0, .int .i64 0, .int .i64 0, .int .i64 0, .int .i64 0, .bool false, .int .i64 0, .int .i64 0, .int .i64 0, .int .i64 0] 72)).heap.size = w.heap.size + 2 := by simp
  have x3 := blk_cell bX 3 _ rfl
  go_enter Tryz.func27, Tryz.ntmps27
  go_upto_region 1 with fail
  generalize (w.alloc (.cells #[.int .i64 y.name, .int .i64 y.who, .string y.own, .slice (some ad) y.lgn lc, .int .i64 y.pe, .int .i64 y.len, .int .i64 y.hei, .int .i64 y.cl, .bool y.all, .int .i64 y.be, .int .i64 y.state, .int .i64 y.unt, .int .i64 y.price] 72)).alloc (.cells #[.int .i64 0, .int .i64 0, .string ⟨#[]⟩, .slice none 0 0, .int .i64 0, .int .i64 0, .int .i64 0, .int .i64 0, .bool false, .int .i64 0, .int .i64 0, .int .i64 0, .int .i64 0] 72) = V at hb0 bX bR hs0 x3 ⊢
  go_wp2_with fail
  refine (cloneInts ad y.lgn lc y.lg V hn (hx.below hb0)).mono ?_
  rintro e w2 ⟨⟨v, rfl, ho⟩, hb2⟩
  obtain ⟨a3, c3, rfl, _⟩ := own_form ho
  have bX2 := blk_below bX hb2
  have bR2 := blk_below bR hb2
  have y3 := blk_cell bX2 3 _ rfl
  have f3 := blk_free bX2 3
  have hk : Kept w2 (w2.setCell ⟨w.heap.size, 3, none⟩ (.slice a3 y.lgn c3)) (fun b => b = w.heap.size) := (Kept.refl w2 (fun b => b = w.heap.size)).set (a := ⟨w.heap.size, 3, none⟩) rfl _
  have bX3 : (w2.setCell ⟨w.heap.size, 3, none⟩ (.slice a3 y.lgn c3)).heap[w.heap.size]? = some (.cells #[.int .i64 y.name, .int .i64 y.who, .string y.own, .slice a3 y.lgn c3, .int .i64 y.pe, .int .i64 y.len, .int .i64 y.hei, .int .i64 y.cl, .bool y.all, .int .i64 y.be, .int .i64 y.state, .int .i64 y.unt, .int .i64 y.price] 72 (0, 0)) := by simpa using blk_set bX2 3 (.slice a3 y.lgn c3)
  have bR3 : (w2.setCell ⟨w.heap.size, 3, none⟩ (.slice a3 y.lgn c3)).heap[w.heap.size + 1]? = some (.cells #[.int .i64 0, .int .i64 0, .string ⟨#[]⟩, .slice none 0 0, .int .i64 0, .int .i64 0, .int .i64 0, .int .i64 0, .bool false, .int .i64 0, .int .i64 0, .int .i64 0, .int .i64 0] 72 (0, 0)) := blk_set_other bR2 3 _ (by omega)
  have ho3 := hk.own ho (fun g e1 e2 => by have e2 : g = w.heap.size := e2; have := (World.ownsRow.lt ho g e1).1; omega)
  have hb3 : Below w.heap.size w (w2.setCell ⟨w.heap.size, 3, none⟩ (.slice a3 y.lgn c3)) := (after hb0 hb2).setCell (p := ⟨w.heap.size, 3, none⟩) (Nat.le_refl _) _
  clear x3 bX bR hb2 bX2 bR2
  go_upto_region 2 with fail
  generalize w2.setCell ⟨w.heap.size, 3, none⟩ (.slice a3 y.lgn c3) = W at bX3 bR3 ho3 hb3 ⊢
  clear y3 f3 hk ho
  refine wp_region_lit ?_
  refine wpList_load_row rfl _ _ rfl w.heap.size rfl _ _ (0, 0) _ bX3 Tryz.underlying72 rfl Tryz.sizeBk ?_
  refine wpList_store_row rfl _ _ _ rfl (w.heap.size + 1) _ rfl rfl _ _ bR3 Tryz.sizeBk rfl (by simp [Value.oneCell']) ?_
  obtain ⟨F, hF⟩ : ∃ F, F = W.setRow (w.heap.size + 1) #[.int .i64 y.name, .int .i64 y.who, .string y.own, .slice a3 y.lgn c3, .int .i64 y.pe, .int .i64 y.len, .int .i64 y.hei, .int .i64 y.cl, .bool y.all, .int .i64 y.be, .int .i64 y.state, .int .i64 y.unt, .int .i64 y.price] := ⟨_, rfl⟩
  have RF : F.heap[w.heap.size + 1]? = some (.cells #[.int .i64 y.name, .int .i64 y.who, .string y.own, .slice a3 y.lgn c3, .int .i64 y.pe, .int .i64 y.len, .int .i64 y.hei, .int .i64 y.cl, .bool y.all, .int .i64 y.be, .int .i64 y.state, .int .i64 y.unt, .int .i64 y.price] 72 (0, 0)) := by rw [hF]; exact setRow_heap _ _ _ _ _ _ bR3
  have HF : Below w.heap.size w F := by rw [hF]; exact below_setRow hb3 (by omega) _
  have hoF : F.ownsRow V.heap.size 3 1 (.slice a3 y.lgn c3) y.lgn (intList y.lg y.lgn) := by
    have hkF : Kept W F (fun b => b = w.heap.size + 1) := by rw [hF]; exact ⟨rfl, rfl, rfl, (below_setRow (Below.refl 0 W) (Nat.zero_le _) _).size, fun k _ hne => setRow_other _ _ _ _ hne⟩
    exact hkF.own ho3 (fun g e1 e2 => by have e2 : g = w.heap.size + 1 := e2; have := (World.ownsRow.lt ho3 g e1).1; omega)
  rw [← hF]
  clear hF
  have hl := run_loadVar_row (P := Tryz.prog) F (w.heap.size + 1) 72 72 _ (0, 0) _ RF Tryz.underlying72 rfl Tryz.sizeBk
  go_wp2
  exact bodyPost_ret (v := .agg #[.int .i64 y.name, .int .i64 y.who, .string y.own, .slice a3 y.lgn c3, .int .i64 y.pe, .int .i64 y.len, .int .i64 y.hei, .int .i64 y.cl, .bool y.all, .int .i64 y.be, .int .i64 y.state, .int .i64 y.unt, .int .i64 y.price]) (results_cell Tryz.results27 rfl hl) rfl ⟨⟨a3, c3, rfl, own_base hoF (by omega)⟩, HF⟩
theorem list13 {l : List Value} (h : l.length = 13) : ∃ u0 u1 u2 u3 u4 u5 u6 u7 u8 u9 u10 u11 u12, l = [u0, u1, u2, u3, u4, u5, u6, u7, u8, u9, u10, u11, u12] := by
  refine ⟨l[0], l[1], l[2], l[3], l[4], l[5], l[6], l[7], l[8], l[9], l[10], l[11], l[12], ?_⟩
  apply List.ext_getElem
  · simpa using h
  · intro i h1 h2
    have h3 : i < 13 := by omega
    have h4 : i = 0 ∨ i = 1 ∨ i = 2 ∨ i = 3 ∨ i = 4 ∨ i = 5 ∨ i = 6 ∨ i = 7 ∨ i = 8 ∨ i = 9 ∨ i = 10 ∨ i = 11 ∨ i = 12 := by omega
    rcases h4 with rfl | rfl | rfl | rfl | rfl | rfl | rfl | rfl | rfl | rfl | rfl | rfl | rfl <;> rfl
structure BksTo (w : World) (base g k N : Nat) (S : Nat → Book) (L : Nat → Value) : Prop where
  row : w.ownsRow base 72 13 (.slice (some ⟨g, 0, none⟩) N N) N ((List.range (N * 13)).map (recCell 13 (upto k (bkC S L) [.int .i64 0, .int .i64 0, .string ⟨#[]⟩, .slice none 0 0, .int .i64 0, .int .i64 0, .int .i64 0, .int .i64 0, .bool false, .int .i64 0, .int .i64 0, .int .i64 0, .int .i64 0])))
  legs : ∀ i, i < k → w.ownsRow base 3 1 (L i) (S i).lgn (intList (S i).lg (S i).lgn)
  apart : ∀ i j, i < j → j < k → ∀ b, (L i).ownBlock = some b → (L j).ownBlock ≠ some b
theorem BksTo.below {w w' : World} {base g k N : Nat} {S : Nat → Book} {L : Nat → Value} (h : BksTo w base g k N S L) (hb : Below w.heap.size w w') : BksTo w' base g k N S L := ⟨own_below hb h.row, fun i hi => own_below hb (h.legs i hi), h.apart⟩
theorem BksTo.own {w : World} {base g N : Nat} {S : Nat → Book} {L : Nat → Value} (h : BksTo w base g N N S L) : OwnBks w base (.slice (some ⟨g, 0, none⟩) N N) N S L :=
  ⟨own_recs h.row (by decide) (fun i hi => upto_lt _ _ hi), h.legs, h.apart⟩
def set13 (w : World) (g t : Nat) (v0 v1 v2 v3 v4 v5 v6 v7 v8 v9 v10 v11 v12 : Value) : World :=
  (((((((((((((w.setCell ⟨g, t * 13, none⟩ v0).setCell ⟨g, t * 13 + 1, none⟩ v1).setCell ⟨g, t * 13 + 2, none⟩ v2).setCell ⟨g, t * 13 + 3, none⟩ v3).setCell ⟨g, t * 13 + 4, none⟩ v4).setCell ⟨g, t * 13 + 5, none⟩ v5).setCell ⟨g, t * 13 + 6, none⟩ v6).setCell ⟨g, t * 13 + 7, none⟩ v7).setCell ⟨g, t * 13 + 8, none⟩ v8).setCell ⟨g, t * 13 + 9, none⟩ v9).setCell ⟨g, t * 13 + 10, none⟩ v10).setCell ⟨g, t * 13 + 11, none⟩ v11).setCell ⟨g, t * 13 + 12, none⟩ v12)
theorem set13_kept (w : World) (g t : Nat) (v0 v1 v2 v3 v4 v5 v6 v7 v8 v9 v10 v11 v12 : Value) : Kept w (set13 w g t v0 v1 v2 v3 v4 v5 v6 v7 v8 v9 v10 v11 v12) (fun b => b = g) :=
  (((((((((((((Kept.refl w (fun b => b = g)).set (a := ⟨g, t * 13, none⟩) rfl v0).set (a := ⟨g, t * 13 + 1, none⟩) rfl v1).set (a := ⟨g, t * 13 + 2, none⟩) rfl v2).set (a := ⟨g, t * 13 + 3, none⟩) rfl v3).set (a := ⟨g, t * 13 + 4, none⟩) rfl v4).set (a := ⟨g, t * 13 + 5, none⟩) rfl v5).set (a := ⟨g, t * 13 + 6, none⟩) rfl v6).set (a := ⟨g, t * 13 + 7, none⟩) rfl v7).set (a := ⟨g, t * 13 + 8, none⟩) rfl v8).set (a := ⟨g, t * 13 + 9, none⟩) rfl v9).set (a := ⟨g, t * 13 + 10, none⟩) rfl v10).set (a := ⟨g, t * 13 + 11, none⟩) rfl v11).set (a := ⟨g, t * 13 + 12, none⟩) rfl v12
theorem set13_row {w : World} {base e g c N t : Nat} {C : Nat → List Value} (v0 v1 v2 v3 v4 v5 v6 v7 v8 v9 v10 v11 v12 : Value) (h : w.ownsRow base e 13 (.slice (some ⟨g, 0, none⟩) N c) N ((List.range (N * 13)).map (recCell 13 C))) (hl : (C t).length = 13) :
    (set13 w g t v0 v1 v2 v3 v4 v5 v6 v7 v8 v9 v10 v11 v12).ownsRow base e 13 (.slice (some ⟨g, 0, none⟩) N c) N ((List.range (N * 13)).map (recCell 13 (fun i => if i = t then [v0, v1, v2, v3, v4, v5, v6, v7, v8, v9, v10, v11, v12] else C i))) := by
  have h0 := own_rec h t 0 v0 hl (by decide)
  rw [Nat.add_zero] at h0
  have h1 := own_rec h0 t 1 v1 (by simp only [setC_at, List.length_set]; exact hl) (by decide)
  have h2 := own_rec h1 t 2 v2 (by simp only [setC_at, List.length_set]; exact hl) (by decide)
  have h3 := own_rec h2 t 3 v3 (by simp only [setC_at, List.length_set]; exact hl) (by decide)
  have h4 := own_rec h3 t 4 v4 (by simp only [setC_at, List.length_set]; exact hl) (by decide)
  have h5 := own_rec h4 t 5 v5 (by simp only [setC_at, List.length_set]; exact hl) (by decide)
  have h6 := own_rec h5 t 6 v6 (by simp only [setC_at, List.length_set]; exact hl) (by decide)
  have h7 := own_rec h6 t 7 v7 (by simp only [setC_at, List.length_set]; exact hl) (by decide)
  have h8 := own_rec h7 t 8 v8 (by simp only [setC_at, List.length_set]; exact hl) (by decide)
  have h9 := own_rec h8 t 9 v9 (by simp only [setC_at, List.length_set]; exact hl) (by decide)
  have h10 := own_rec h9 t 10 v10 (by simp only [setC_at, List.length_set]; exact hl) (by decide)
  have h11 := own_rec h10 t 11 v11 (by simp only [setC_at, List.length_set]; exact hl) (by decide)
  have h12 := own_rec h11 t 12 v12 (by simp only [setC_at, List.length_set]; exact hl) (by decide)
  refine own_recs h12 (by decide) (fun i hi => ?_)
  by_cases e : i = t
  · subst e
    rw [if_pos rfl]
    simp only [setC_at]
    obtain ⟨u0, u1, u2, u3, u4, u5, u6, u7, u8, u9, u10, u11, u12, hC⟩ : ∃ u0 u1 u2 u3 u4 u5 u6 u7 u8 u9 u10 u11 u12, C i = [u0, u1, u2, u3, u4, u5, u6, u7, u8, u9, u10, u11, u12] := list13 hl
    rw [hC]
    rfl
  · rw [if_neg e]
    simp only [setC_ne _ _ _ e]
theorem copyBooks_any (ao : Option Addr) (N c : Nat) (S : Nat → Book) (w : World) (hN : N ≤ 1048576) (hs : ∀ i, i < N → 0 < (S i).lgn ∧ (S i).lgn ≤ 1048576) (hz : BooksAt w ao N S) :
    Calls Tryz.prog 26 #[.slice ao N c, .func (.func 27) #[] #[]] w fun e w' => (∃ g L, e = .returned (.slice (some ⟨g, 0, none⟩) N N) ∧ OwnBks w' w.heap.size (.slice (some ⟨g, 0, none⟩) N N) N S L) ∧ Below w.heap.size w w' := by
  obtain ⟨i0, hi, hz0, hz1, hz2⟩ := info_parts Tryz.infoBooking
  have HS : Hid (∀ i, i < N → 0 < (S i).lgn ∧ (S i).lgn ≤ 1048576) := hs
  have HX : Hid (BooksAt w ao N S) := hz
  clear hs hz
  go_enter Tryz.func26, Tryz.ntmps26
  go_wp2_with (first | (at_make; refine wpList_make_full _ rfl _ _ 28 rfl w.heap.size 72 i0 _ 13 Tryz.underlying28 hi hz0 hz1 .i64 .i64 _ _ N rfl rfl rfl rfl (by rw [hz2]; omega) (by unfold maxLen; omega) (Nat.le_refl _) ?_; intro w1 hown1 hgrow1))
  go_loopw [6, 7, 13] (fun _ _ i wr => ∃ (k : Nat) (L : Nat → Value), k ≤ N ∧ i = .int .i64 k ∧ BksTo wr w.heap.size w.heap.size k N S L ∧ Below w.heap.size w wr) (fun _ _ i _ => N - (intOf i).toNat)
  case atStart => exact ⟨0, fun _ => .slice none 0 0, Nat.zero_le _, rfl, ⟨own_of_row ((row_of_own hown1).congr (fun j hj => (made_recs (z := #[.int .i64 0, .int .i64 0, .string ⟨#[]⟩, .slice none 0 0, .int .i64 0, .int .i64 0, .int .i64 0, .int .i64 0, .bool false, .int .i64 0, .int .i64 0, .int .i64 0, .int .i64 0]) (sz := 13) rfl N j hj).trans (by unfold recCell; rw [upto_ge _ _ (by omega)]))) (Nat.le_refl _) (by unfold maxLen; omega), fun i hi => by omega, fun i j _ hj => by omega⟩, (Below.refl _ _).grown hgrow1 (Nat.le_refl _) (by simp)⟩
  case round =>
    obtain ⟨k, L, hk, rfl, hrow, hbel⟩ := hrel
    clear hown1 hgrow1
    by_cases hlt : k < N
    · obtain ⟨E, hE, hI⟩ := HX.out
      obtain ⟨b, off, rfl, hc⟩ := hE k hlt
      obtain ⟨alg, lc, eC, hlg, slg⟩ := hI k hlt
      obtain ⟨sk1, sk2⟩ := HS.out k hlt
      obtain ⟨b2, o2, ea, _⟩ := hlg 0 sk1
      obtain ⟨ad, rfl⟩ : ∃ ad, alg = some ad := ⟨_, ea⟩
      clear ea
      have hlt' : b < w.heap.size := World.block_lt_of_cell? w _ (hc 0 (by decide))
      have i1 : (k : Int) < (N : Int) := by omega
      have HLG : Hid (IntsAt w (some ad) (S k).lgn (S k).lg) := hlg
      have c0 : wr.cell? ⟨b, off + k * 13, none⟩ = some (.int .i64 (S k).name) := (hbel.cell (p := ⟨b, off + k * 13, none⟩) hlt').trans (by have := hc 0 (by decide); rw [eC] at this; exact this)
      have c1 : wr.cell? ⟨b, off + k * 13 + 1, none⟩ = some (.int .i64 (S k).who) := (hbel.cell (p := ⟨b, off + k * 13 + 1, none⟩) hlt').trans (by have := hc 1 (by decide); rw [eC] at this; exact this)
      have c2 : wr.cell? ⟨b, off + k * 13 + 2, none⟩ = some (.string (S k).own) := (hbel.cell (p := ⟨b, off + k * 13 + 2, none⟩) hlt').trans (by have := hc 2 (by decide); rw [eC] at this; exact this)
      have c3 : wr.cell? ⟨b, off + k * 13 + 3, none⟩ = some (.slice (some ad) (S k).lgn lc) := (hbel.cell (p := ⟨b, off + k * 13 + 3, none⟩) hlt').trans (by have := hc 3 (by decide); rw [eC] at this; exact this)
      have c4 : wr.cell? ⟨b, off + k * 13 + 4, none⟩ = some (.int .i64 (S k).pe) := (hbel.cell (p := ⟨b, off + k * 13 + 4, none⟩) hlt').trans (by have := hc 4 (by decide); rw [eC] at this; exact this)
      have c5 : wr.cell? ⟨b, off + k * 13 + 5, none⟩ = some (.int .i64 (S k).len) := (hbel.cell (p := ⟨b, off + k * 13 + 5, none⟩) hlt').trans (by have := hc 5 (by decide); rw [eC] at this; exact this)
      have c6 : wr.cell? ⟨b, off + k * 13 + 6, none⟩ = some (.int .i64 (S k).hei) := (hbel.cell (p := ⟨b, off + k * 13 + 6, none⟩) hlt').trans (by have := hc 6 (by decide); rw [eC] at this; exact this)
      have c7 : wr.cell? ⟨b, off + k * 13 + 7, none⟩ = some (.int .i64 (S k).cl) := (hbel.cell (p := ⟨b, off + k * 13 + 7, none⟩) hlt').trans (by have := hc 7 (by decide); rw [eC] at this; exact this)
      have c8 : wr.cell? ⟨b, off + k * 13 + 8, none⟩ = some (.bool (S k).all) := (hbel.cell (p := ⟨b, off + k * 13 + 8, none⟩) hlt').trans (by have := hc 8 (by decide); rw [eC] at this; exact this)
      have c9 : wr.cell? ⟨b, off + k * 13 + 9, none⟩ = some (.int .i64 (S k).be) := (hbel.cell (p := ⟨b, off + k * 13 + 9, none⟩) hlt').trans (by have := hc 9 (by decide); rw [eC] at this; exact this)
      have c10 : wr.cell? ⟨b, off + k * 13 + 10, none⟩ = some (.int .i64 (S k).state) := (hbel.cell (p := ⟨b, off + k * 13 + 10, none⟩) hlt').trans (by have := hc 10 (by decide); rw [eC] at this; exact this)
      have c11 : wr.cell? ⟨b, off + k * 13 + 11, none⟩ = some (.int .i64 (S k).unt) := (hbel.cell (p := ⟨b, off + k * 13 + 11, none⟩) hlt').trans (by have := hc 11 (by decide); rw [eC] at this; exact this)
      have c12 : wr.cell? ⟨b, off + k * 13 + 12, none⟩ = some (.int .i64 (S k).price) := (hbel.cell (p := ⟨b, off + k * 13 + 12, none⟩) hlt').trans (by have := hc 12 (by decide); rw [eC] at this; exact this)
      have hbx := push hbel (.cells #[.int .i64 (S k).name, .int .i64 (S k).who, .string (S k).own, .slice (some ad) (S k).lgn lc, .int .i64 (S k).pe, .int .i64 (S k).len, .int .i64 (S k).hei, .int .i64 (S k).cl, .bool (S k).all, .int .i64 (S k).be, .int .i64 (S k).state, .int .i64 (S k).unt, .int .i64 (S k).price] 72)
      have hr1 := hrow.below (push (Below.refl _ wr) (.cells #[.int .i64 (S k).name, .int .i64 (S k).who, .string (S k).own, .slice (some ad) (S k).lgn lc, .int .i64 (S k).pe, .int .i64 (S k).len, .int .i64 (S k).hei, .int .i64 (S k).cl, .bool (S k).all, .int .i64 (S k).be, .int .i64 (S k).state, .int .i64 (S k).unt, .int .i64 (S k).price] 72))
      have hbox := heap_alloc_new wr (.cells #[.int .i64 (S k).name, .int .i64 (S k).who, .string (S k).own, .slice (some ad) (S k).lgn lc, .int .i64 (S k).pe, .int .i64 (S k).len, .int .i64 (S k).hei, .int .i64 (S k).cl, .bool (S k).all, .int .i64 (S k).be, .int .i64 (S k).state, .int .i64 (S k).unt, .int .i64 (S k).price] 72)
      clear hE hI hc eC hlg slg hrow
      go_wp2_with fail
      generalize wr.alloc (.cells #[.int .i64 (S k).name, .int .i64 (S k).who, .string (S k).own, .slice (some ad) (S k).lgn lc, .int .i64 (S k).pe, .int .i64 (S k).len, .int .i64 (S k).hei, .int .i64 (S k).cl, .bool (S k).all, .int .i64 (S k).be, .int .i64 (S k).state, .int .i64 (S k).unt, .int .i64 (S k).price] 72) = W at hbx hr1 hbox ⊢
      clear c0 c1 c2 c3 c4 c5 c6 c7 c8 c9 c10 c11 c12 hbox
      refine (copyBooking_any (S k) ad lc W sk2 (HLG.out.below hbx)).mono ?_
      rintro e w2 ⟨⟨a3, c3, rfl, hl⟩, hb2⟩
      have hr2 := hr1.below hb2
      have hkS := set13_kept w2 w.heap.size k (.int .i64 (S k).name) (.int .i64 (S k).who) (.string (S k).own) (.slice a3 (S k).lgn c3) (.int .i64 (S k).pe) (.int .i64 (S k).len) (.int .i64 (S k).hei) (.int .i64 (S k).cl) (.bool (S k).all) (.int .i64 (S k).be) (.int .i64 (S k).state) (.int .i64 (S k).unt) (.int .i64 (S k).price)
      have HRS : Hid _ := set13_row (t := k) (.int .i64 (S k).name) (.int .i64 (S k).who) (.string (S k).own) (.slice a3 (S k).lgn c3) (.int .i64 (S k).pe) (.int .i64 (S k).len) (.int .i64 (S k).hei) (.int .i64 (S k).cl) (.bool (S k).all) (.int .i64 (S k).be) (.int .i64 (S k).state) (.int .i64 (S k).unt) (.int .i64 (S k).price) hr2.row (by rw [upto_ge _ _ (by omega)]; rfl)
      have hbS : Below w.heap.size w (set13 w2 w.heap.size k (.int .i64 (S k).name) (.int .i64 (S k).who) (.string (S k).own) (.slice a3 (S k).lgn c3) (.int .i64 (S k).pe) (.int .i64 (S k).len) (.int .i64 (S k).hei) (.int .i64 (S k).cl) (.bool (S k).all) (.int .i64 (S k).be) (.int .i64 (S k).state) (.int .i64 (S k).unt) (.int .i64 (S k).price)) := Kept.below (after hbx hb2) (after hbx hb2).size hkS (fun b e => by have e : b = w.heap.size := e; omega)
      have HBT : Hid (BksTo (set13 w2 w.heap.size k (.int .i64 (S k).name) (.int .i64 (S k).who) (.string (S k).own) (.slice a3 (S k).lgn c3) (.int .i64 (S k).pe) (.int .i64 (S k).len) (.int .i64 (S k).hei) (.int .i64 (S k).cl) (.bool (S k).all) (.int .i64 (S k).be) (.int .i64 (S k).state) (.int .i64 (S k).unt) (.int .i64 (S k).price)) w.heap.size w.heap.size (k + 1) N S (atV L k (.slice a3 (S k).lgn c3))) := by
        refine ⟨own_recs HRS.out (by decide) (fun i hi => ?_), fun i hi => ?_, fun i j hij hj => ?_⟩
        · by_cases e : i = k
          · subst e; rw [if_pos rfl, upto_lt _ _ (by omega)]; unfold bkC; rw [atV_at]
          · rw [if_neg e]
            by_cases h : i < k
            · rw [upto_lt _ _ h, upto_lt _ _ (by omega)]; unfold bkC; rw [atV_ne _ _ _ _ e]
            · rw [upto_ge _ _ h, upto_ge _ _ (by omega)]
        · by_cases e : i = k
          · subst e; rw [atV_at]; exact hkS.own (own_base hl hbx.size) (fun g e1 e2 => own_apart hr2.row (own_base hl hbx.size) (by decide) g (by rw [show g = w.heap.size from e2]; rfl) e1)
          · rw [atV_ne _ _ _ _ e]; exact hkS.own (hr2.legs i (by omega)) (fun g e1 e2 => own_apart hr2.row (hr2.legs i (by omega)) (by decide) g (by rw [show g = w.heap.size from e2]; rfl) e1)
        · by_cases e : j = k
          · subst e
            rw [atV_at, atV_ne _ _ _ _ (by omega)]
            intro b h1 h3
            have a := ((hr1.legs i hij).lt b h1).2
            have c := (World.ownsRow.lt hl b h3).1
            omega
          · rw [atV_ne _ _ _ _ e, atV_ne _ _ _ _ (by omega)]
            exact hr1.apart i j hij (by omega)
      have HBS : Hid (Below w.heap.size w (set13 w2 w.heap.size k (.int .i64 (S k).name) (.int .i64 (S k).who) (.string (S k).own) (.slice a3 (S k).lgn c3) (.int .i64 (S k).pe) (.int .i64 (S k).len) (.int .i64 (S k).hei) (.int .i64 (S k).cl) (.bool (S k).all) (.int .i64 (S k).be) (.int .i64 (S k).state) (.int .i64 (S k).unt) (.int .i64 (S k).price))) := hbS
      obtain ⟨u0, o0⟩ : ∃ v, w2.cell? ⟨w.heap.size, k * 13 + 0, none⟩ = some v := ⟨_, own_rcell hr2.row hlt (by decide)⟩
      have f0 := hr2.row.frozenAt (k * 13)
      obtain ⟨u1, o1⟩ : ∃ v, w2.cell? ⟨w.heap.size, k * 13 + 1, none⟩ = some v := ⟨_, own_rcell hr2.row hlt (by decide)⟩
      have f1 := hr2.row.frozenAt (k * 13 + 1)
      obtain ⟨u2, o2⟩ : ∃ v, w2.cell? ⟨w.heap.size, k * 13 + 2, none⟩ = some v := ⟨_, own_rcell hr2.row hlt (by decide)⟩
      have f2 := hr2.row.frozenAt (k * 13 + 2)
      obtain ⟨u3, o3⟩ : ∃ v, w2.cell? ⟨w.heap.size, k * 13 + 3, none⟩ = some v := ⟨_, own_rcell hr2.row hlt (by decide)⟩
      have f3 := hr2.row.frozenAt (k * 13 + 3)
      obtain ⟨u4, o4⟩ : ∃ v, w2.cell? ⟨w.heap.size, k * 13 + 4, none⟩ = some v := ⟨_, own_rcell hr2.row hlt (by decide)⟩
      have f4 := hr2.row.frozenAt (k * 13 + 4)
      obtain ⟨u5, o5⟩ : ∃ v, w2.cell? ⟨w.heap.size, k * 13 + 5, none⟩ = some v := ⟨_, own_rcell hr2.row hlt (by decide)⟩
      have f5 := hr2.row.frozenAt (k * 13 + 5)
      obtain ⟨u6, o6⟩ : ∃ v, w2.cell? ⟨w.heap.size, k * 13 + 6, none⟩ = some v := ⟨_, own_rcell hr2.row hlt (by decide)⟩
      have f6 := hr2.row.frozenAt (k * 13 + 6)
      obtain ⟨u7, o7⟩ : ∃ v, w2.cell? ⟨w.heap.size, k * 13 + 7, none⟩ = some v := ⟨_, own_rcell hr2.row hlt (by decide)⟩
      have f7 := hr2.row.frozenAt (k * 13 + 7)
      obtain ⟨u8, o8⟩ : ∃ v, w2.cell? ⟨w.heap.size, k * 13 + 8, none⟩ = some v := ⟨_, own_rcell hr2.row hlt (by decide)⟩
      have f8 := hr2.row.frozenAt (k * 13 + 8)
      obtain ⟨u9, o9⟩ : ∃ v, w2.cell? ⟨w.heap.size, k * 13 + 9, none⟩ = some v := ⟨_, own_rcell hr2.row hlt (by decide)⟩
      have f9 := hr2.row.frozenAt (k * 13 + 9)
      obtain ⟨u10, o10⟩ : ∃ v, w2.cell? ⟨w.heap.size, k * 13 + 10, none⟩ = some v := ⟨_, own_rcell hr2.row hlt (by decide)⟩
      have f10 := hr2.row.frozenAt (k * 13 + 10)
      obtain ⟨u11, o11⟩ : ∃ v, w2.cell? ⟨w.heap.size, k * 13 + 11, none⟩ = some v := ⟨_, own_rcell hr2.row hlt (by decide)⟩
      have f11 := hr2.row.frozenAt (k * 13 + 11)
      obtain ⟨u12, o12⟩ : ∃ v, w2.cell? ⟨w.heap.size, k * 13 + 12, none⟩ = some v := ⟨_, own_rcell hr2.row hlt (by decide)⟩
      have f12 := hr2.row.frozenAt (k * 13 + 12)
      rw [Nat.add_zero] at o0
      clear hr1 hr2 hl hbx hb2 hkS HRS hbS hbel HLG
      go_wp2
      go_roundw
      case rel =>
        have key := HBT.out
        have key2 := HBS.out
        unfold set13 at key key2
        exact ⟨k + 1, _, by omega, by go_num, key, key2⟩
      case measure => simp [intOf]; omega
    · obtain rfl : k = N := by omega
      have HO : Hid _ := hrow.own
      go_wp2
      go_ret
      exact ⟨⟨_, L, rfl, HO.out⟩, hbel⟩
end Go.Proofs.YtlelckbeoclhbaaGreat

namespace Go.Proofs.YtlelckbeoclhbaaGreat
open Go.RowKit
theorem goodLoads_any (x : Off) (asa ald : Option Addr) (csa cld : Nat) (w : World) (hs : Off.Short x 1048576) (hsa : SailsAt w asa x.san x.sa) (hld : LoadsAt w ald x.ldn x.ld) :
    Calls Tryz.prog 62 #[.slice asa x.san csa, .slice ald x.ldn cld] w fun e w' => SaysIf (x.ldn = x.san ∧ ∀ k, k < x.san → LoadOk (x.sa k) (x.ld k)) e ∧ Below w.heap.size w w' := by
  have HSA : Hid (SailsAt w asa x.san x.sa) := hsa
  have HLD : Hid (LoadsAt w ald x.ldn x.ld) := hld
  have HSH : Hid (Off.Short x 1048576) := hs
  have n1 : x.san ≤ 1048576 := hs.1.1
  clear hsa hld hs
  by_cases g1 : x.ldn = x.san
  case neg =>
    have e1 : ((x.ldn : Int) != (x.san : Int)) = true := by simp; omega
    have HN : Hid (¬ (x.ldn = x.san ∧ ∀ k, k < x.san → LoadOk (x.sa k) (x.ld k))) := fun h => g1 h.1
    clear g1
    go_enter Tryz.func62, Tryz.ntmps62
    go_wp2
    go_ret
    exact ⟨says_no HN.out, Below.refl _ _⟩
  have e1 : ((x.ldn : Int) != (x.san : Int)) = false := by simp; omega
  have HE : Hid (x.ldn = x.san) := g1
  clear g1
  go_enter Tryz.func62, Tryz.ntmps62
  go_wp2
  clear e1
  go_loopw [5, 6, 7, 15] (fun _ _ _ i wr => ∃ k : Nat, k ≤ x.san ∧ i = .int .i64 k ∧ (∀ j, j < k → LoadOk (x.sa j) (x.ld j)) ∧ Below w.heap.size w wr) (fun _ _ _ i _ => x.san - (intOf i).toNat)
  case atStart => exact ⟨0, Nat.zero_le _, rfl, fun j hj => by omega, Below.refl _ _⟩
  case round =>
    obtain ⟨k, hk, rfl, hall, hbel⟩ := hrel
    have HA : Hid (∀ j, j < k → LoadOk (x.sa j) (x.ld j)) := hall
    clear hall
    by_cases hlt : k < x.san
    · obtain ⟨sb, so, la, lc, ca, cc, rfl, f0, f1, f2, f3, f4, f5, f6, f7, hla, hca, sla, sca⟩ := HSA.out k hlt
      obtain ⟨s, hsd⟩ : ∃ s, s = x.sa k := ⟨_, rfl⟩
      have hsh := HSH.out.1.2 k hlt
      rw [← hsd] at f0 f1 f2 f3 f4 f5 f6 f7 hla hca sla sca hsh
      have HSD : Hid (s = x.sa k) := hsd
      have lsb := World.block_lt_of_cell? w _ f0
      have c0 := (hbel.cell (p := ⟨sb, so + k * 8, none⟩) lsb).trans f0
      have c1 := (hbel.cell (p := ⟨sb, so + k * 8 + 1, none⟩) lsb).trans f1
      have c2 := (hbel.cell (p := ⟨sb, so + k * 8 + 2, none⟩) lsb).trans f2
      have c3 := (hbel.cell (p := ⟨sb, so + k * 8 + 3, none⟩) lsb).trans f3
      have c4 := (hbel.cell (p := ⟨sb, so + k * 8 + 4, none⟩) lsb).trans f4
      have c5 := (hbel.cell (p := ⟨sb, so + k * 8 + 5, none⟩) lsb).trans f5
      have c6 := (hbel.cell (p := ⟨sb, so + k * 8 + 6, none⟩) lsb).trans f6
      have c7 := (hbel.cell (p := ⟨sb, so + k * 8 + 7, none⟩) lsb).trans f7
      obtain ⟨C, hC, hI⟩ := HLD.out
      have hk2 : k < x.ldn := by have := HE.out; omega
      obtain ⟨lb, lo, rfl, hc⟩ := hC k hk2
      obtain ⟨l, hld⟩ : ∃ l, l = x.ld k := ⟨_, rfl⟩
      have hlh := HSH.out.2.1.2 k hk2
      obtain ⟨ast, cst, aro, cro, ase, cse, eC, hst, sst, hro, sro, hse, sse⟩ := hI k hk2
      rw [← hld] at eC hst sst hro sro hse sse hlh
      have HLL : Hid (l = x.ld k) := hld
      have llb : lb < w.heap.size := World.block_lt_of_cell? w _ (hc 0 (by decide))
      have d0 : ∀ o, (wr.alloc o).cell? ⟨lb, lo + k * 3, none⟩ = some (.slice ast l.stn cst) := fun o => ((push hbel o).cell (p := ⟨lb, lo + k * 3, none⟩) llb).trans (by have := hc 0 (by decide); rw [eC] at this; exact this)
      have d1 : ∀ o, (wr.alloc o).cell? ⟨lb, lo + k * 3 + 1, none⟩ = some (.slice aro l.ron cro) := fun o => ((push hbel o).cell (p := ⟨lb, lo + k * 3 + 1, none⟩) llb).trans (by have := hc 1 (by decide); rw [eC] at this; exact this)
      have d2 : ∀ o, (wr.alloc o).cell? ⟨lb, lo + k * 3 + 2, none⟩ = some (.slice ase l.sen cse) := fun o => ((push hbel o).cell (p := ⟨lb, lo + k * 3 + 2, none⟩) llb).trans (by have := hc 2 (by decide); rw [eC] at this; exact this)
      have HLA : Hid (PairsAt w la s.la) := hla
      have HCA : Hid (PairsAt w ca s.ca) := hca
      have HST : Hid (StaysAt w ast l.stn l.st ∧ l.stn ≤ cst) := ⟨hst, sst.1⟩
      have HRO : Hid (RoomsAt w aro l.ron l.ro ∧ l.ron ≤ cro) := ⟨hro, sro.1⟩
      have HSE : Hid (SeatsAt w ase l.sen l.se ∧ l.sen ≤ cse) := ⟨hse, sse.1⟩
      have HLH : Hid (Load.Short l 1048576) := hlh
      have HSS : Hid (s.la.n ≤ 1048576 ∧ s.ca.n ≤ 1048576) := ⟨hsh.2.2.1, hsh.2.2.2⟩
      have h0 : (0 : Int) ≤ (k : Int) := by omega
      have h1 : (k : Int) < (x.ldn : Int) := by omega
      clear hC hI hc eC hsd hld f0 f1 f2 f3 f4 f5 f6 f7 hla hca sla sca hst sst hro sro hse sse hlh hsh hk2
      have hbx := push (push hbel (.cells #[.int .i64 s.id, .string s.fr, .string s.dst, .int .i64 s.dep, .int .i64 s.arr, .slice la s.la.n lc, .slice ca s.ca.n cc, .int .i64 s.most] 54)) (.cells #[.slice ast l.stn cst, .slice aro l.ron cro, .slice ase l.sen cse] 62)
      have bS : ((wr.alloc (.cells #[.int .i64 s.id, .string s.fr, .string s.dst, .int .i64 s.dep, .int .i64 s.arr, .slice la s.la.n lc, .slice ca s.ca.n cc, .int .i64 s.most] 54)).alloc (.cells #[.slice ast l.stn cst, .slice aro l.ron cro, .slice ase l.sen cse] 62)).heap[wr.heap.size]? = some (.cells #[.int .i64 s.id, .string s.fr, .string s.dst, .int .i64 s.dep, .int .i64 s.arr, .slice la s.la.n lc, .slice ca s.ca.n cc, .int .i64 s.most] 54 (0, 0)) := blk_alloc (heap_alloc_new wr _) _
      have bL : ((wr.alloc (.cells #[.int .i64 s.id, .string s.fr, .string s.dst, .int .i64 s.dep, .int .i64 s.arr, .slice la s.la.n lc, .slice ca s.ca.n cc, .int .i64 s.most] 54)).alloc (.cells #[.slice ast l.stn cst, .slice aro l.ron cro, .slice ase l.sen cse] 62)).heap[wr.heap.size + 1]? = some (.cells #[.slice ast l.stn cst, .slice aro l.ron cro, .slice ase l.sen cse] 62 (0, 0)) := by simpa using heap_alloc_new (wr.alloc _) _
      have y5 := blk_cell bS 5 _ rfl
      have m0 := blk_cell bL 0 _ rfl
      go_wp2_with fail
      generalize hBx : wr.heap.size = Bx at bS bL y5 m0 ⊢
      generalize (wr.alloc (.cells #[.int .i64 s.id, .string s.fr, .string s.dst, .int .i64 s.dep, .int .i64 s.arr, .slice la s.la.n lc, .slice ca s.ca.n cc, .int .i64 s.most] 54)).alloc (.cells #[.slice ast l.stn cst, .slice aro l.ron cro, .slice ase l.sen cse] 62) = V at hbx bS bL y5 m0 ⊢
      clear hBx c0 c1 c2 c3 c4 c5 c6 c7 d0 d1 d2 y5 m0 hbel
      refine (implDeck_any la ast s.la.n lc l.stn cst s.la l.st _ rfl HSS.out.1 HLH.out.1 HST.out.2 (HLA.out.below hbx) (HST.out.1.below hbx)).mono ?_
      rintro e V0 ⟨⟨t0, rfl, ht0⟩, hbv⟩
      have HT0 : Hid (t0 = true ↔ DeckI s.la l.stn l.st) := ht0
      have bS' := blk_below bS hbv
      have bL' := blk_below bL hbv
      have hbx' := after hbx hbv
      clear bS bL hbx hbv ht0
      have bS := bS'
      have bL := bL'
      have hbx := hbx'
      clear bS' bL' hbx'
      cases t0 with
      | false =>
        have HN : Hid (¬ (x.ldn = x.san ∧ ∀ k, k < x.san → LoadOk (x.sa k) (x.ld k))) := fun h => by have h := h.2 k hlt; rw [← HSD.out, ← HLL.out] at h; have := HT0.out.2 ((deck_iff _ _ _).1 h.1); cases this
        go_wp2
        go_ret
        exact ⟨says_no HN.out, hbx⟩
      | true =>
      have HP0 : Hid (DeckI s.la l.stn l.st) := HT0.out.1 rfl
      clear HT0
      have y6 := blk_cell bS 6 _ rfl
      have m1 := blk_cell bL 1 _ rfl
      go_wp2_with fail
      clear y6 m1
      refine (implRooms_any ca aro s.ca.n cc l.ron cro s.ca l.ro _ rfl HSS.out.2 HLH.out.2.1 HRO.out.2 (HCA.out.below hbx) (HRO.out.1.below hbx)).mono ?_
      rintro e V1 ⟨⟨t1, rfl, ht1⟩, hbv⟩
      have HT1 : Hid (t1 = true ↔ RoomsS s.ca l.ron l.ro) := ht1
      have bS' := blk_below bS hbv
      have bL' := blk_below bL hbv
      have hbx' := after hbx hbv
      clear bS bL hbx hbv ht1
      have bS := bS'
      have bL := bL'
      have hbx := hbx'
      clear bS' bL' hbx'
      cases t1 with
      | false =>
        have HN : Hid (¬ (x.ldn = x.san ∧ ∀ k, k < x.san → LoadOk (x.sa k) (x.ld k))) := fun h => by have h := h.2 k hlt; rw [← HSD.out, ← HLL.out] at h; have := HT1.out.2 (h.2.1); cases this
        go_wp2
        go_ret
        exact ⟨says_no HN.out, hbx⟩
      | true =>
      have HP1 : Hid (RoomsS s.ca l.ron l.ro) := HT1.out.1 rfl
      clear HT1
      have m2 := blk_cell bL 2 _ rfl
      have y7 := blk_cell bS 7 _ rfl
      go_wp2_with fail
      clear y7 m2
      refine (implSeats_any s.most ase l.sen cse l.se _ (by have := HLH.out.2.2; omega) HSE.out.2 (HSE.out.1.below hbx)).mono ?_
      rintro e V2 ⟨⟨t2, rfl, ht2⟩, hbv⟩
      have HT2 : Hid (t2 = true ↔ SeatsOk s.most l.sen l.se) := ht2
      have bS' := blk_below bS hbv
      have bL' := blk_below bL hbv
      have hbx' := after hbx hbv
      clear bS bL hbx hbv ht2
      have bS := bS'
      have bL := bL'
      have hbx := hbx'
      clear bS' bL' hbx'
      cases t2 with
      | false =>
        have HN : Hid (¬ (x.ldn = x.san ∧ ∀ k, k < x.san → LoadOk (x.sa k) (x.ld k))) := fun h => by have h := h.2 k hlt; rw [← HSD.out, ← HLL.out] at h; have := HT2.out.2 (h.2.2); cases this
        go_wp2
        go_ret
        exact ⟨says_no HN.out, hbx⟩
      | true =>
      have HP2 : Hid (SeatsOk s.most l.sen l.se) := HT2.out.1 rfl
      clear HT2
      go_wp2
      go_roundw
      case rel => exact ⟨k + 1, by omega, by go_num, fun j hj => by
        by_cases e : j = k
        · subst e; rw [← HSD.out, ← HLL.out]; exact ⟨(deck_iff _ _ _).2 HP0.out, HP1.out, HP2.out⟩
        · exact HA.out j (by omega), hbx⟩
      case measure => simp [intOf]; omega
    · obtain rfl : k = x.san := by omega
      go_wp2
      go_ret
      exact ⟨says_yes ⟨HE.out, HA.out⟩, hbel⟩
theorem book_iff {x : Off} {i : Nat} : BookOk x i ↔ (x.bk i).name = i + 1 ∧ (In (x.bk i).who 1 9999 ∧ ¬ Has (whoB x.bk) i (x.bk i).who) ∧ BookG x.san x.sa (x.bk i) := by
  unfold BookOk BookG
  constructor
  · rintro ⟨h1, h2, h3, h4, h5, h6, h7, h8, h9⟩
    exact ⟨h1, ⟨h2, fun ⟨j, hj, e⟩ => h8 j hj e⟩, h3, h4, h5, h6, h9, h7⟩
  · rintro ⟨h1, ⟨h2, h8⟩, h3, h4, h5, h6, h9, h7⟩
    exact ⟨h1, h2, h3, h4, h5, h6, h7, fun j hj e => h8 ⟨j, hj, e⟩, h9⟩
theorem goodBookings_any (x : Off) (asa abk : Option Addr) (csa cbk : Nat) (w : World) (hs : Off.Short x 1048576) (hT : GoodTab x.san x.sa) (hsa : SailsAt w asa x.san x.sa) (hbk : BooksAt w abk x.bkn x.bk) (hcb : x.bkn ≤ cbk) :
    Calls Tryz.prog 63 #[.slice asa x.san csa, .slice abk x.bkn cbk] w fun e w' => SaysIf (x.bkn ≤ 30 ∧ ∀ i, i < x.bkn → BookOk x i) e ∧ Below w.heap.size w w' := by
  have HSA : Hid (SailsAt w asa x.san x.sa) := hsa
  have HSH : Hid (Off.Short x 1048576) := hs
  have HT : Hid (GoodTab x.san x.sa) := hT
  have n1 : x.san ≤ 1048576 := hs.1.1
  obtain ⟨C, hC, hI⟩ := hbk
  have HC : Hid (RecsAt w abk x.bkn 13 C) := hC
  have HI : Hid (∀ k, k < x.bkn → Book.Is w (C k) (x.bk k)) := hI
  clear hsa hs hT hC hI
  by_cases g1 : x.bkn ≤ 30
  case neg =>
    have e1 : decide ((30 : Int) < (x.bkn : Int)) = true := by simp; omega
    have HN : Hid (¬ (x.bkn ≤ 30 ∧ ∀ i, i < x.bkn → BookOk x i)) := fun h => g1 h.1
    clear g1
    go_enter Tryz.func63, Tryz.ntmps63
    go_wp2
    go_ret
    exact ⟨says_no HN.out, Below.refl _ _⟩
  have e1 : decide ((30 : Int) < (x.bkn : Int)) = false := by simp; omega
  go_enter Tryz.func63, Tryz.ntmps63
  go_wp2
  clear e1
  go_loopw [5, 6, 12] (fun _ _ i wr => ∃ k : Nat, k ≤ x.bkn ∧ i = .int .i64 k ∧ (∀ j, j < k → BookOk x j) ∧ Below w.heap.size w wr) (fun _ _ i _ => x.bkn - (intOf i).toNat)
  case atStart => exact ⟨0, Nat.zero_le _, rfl, fun j hj => by omega, Below.refl _ _⟩
  case round =>
    obtain ⟨k, hk, rfl, hall, hbel⟩ := hrel
    have HA : Hid (∀ j, j < k → BookOk x j) := hall
    clear hall
    by_cases hlt : k < x.bkn
    · obtain ⟨bb, bo, rfl, hc⟩ := HC.out k hlt
      obtain ⟨alg, clg, eC, hlg, _⟩ := HI.out k hlt
      obtain ⟨b, hb⟩ : ∃ b, b = x.bk k := ⟨_, rfl⟩
      rw [← hb] at eC hlg
      have HB : Hid (b = x.bk k) := hb
      have HLG : Hid (IntsAt w alg b.lgn b.lg) := hlg
      have HSB : Hid (Book.Short b 1048576) := by rw [hb]; exact HSH.out.2.2.2 k hlt
      have hltb : bb < w.heap.size := World.block_lt_of_cell? w _ (hc 0 (by decide))
      have c0 : wr.cell? ⟨bb, bo + k * 13, none⟩ = some (.int .i64 b.name) := (hbel.cell (p := ⟨bb, bo + k * 13, none⟩) hltb).trans (by have := hc 0 (by decide); rw [eC] at this; exact this)
      have c1 : wr.cell? ⟨bb, bo + k * 13 + 1, none⟩ = some (.int .i64 b.who) := (hbel.cell (p := ⟨bb, bo + k * 13 + 1, none⟩) hltb).trans (by have := hc 1 (by decide); rw [eC] at this; exact this)
      have c2 : wr.cell? ⟨bb, bo + k * 13 + 2, none⟩ = some (.string b.own) := (hbel.cell (p := ⟨bb, bo + k * 13 + 2, none⟩) hltb).trans (by have := hc 2 (by decide); rw [eC] at this; exact this)
      have c3 : wr.cell? ⟨bb, bo + k * 13 + 3, none⟩ = some (.slice alg b.lgn clg) := (hbel.cell (p := ⟨bb, bo + k * 13 + 3, none⟩) hltb).trans (by have := hc 3 (by decide); rw [eC] at this; exact this)
      have c4 : wr.cell? ⟨bb, bo + k * 13 + 4, none⟩ = some (.int .i64 b.pe) := (hbel.cell (p := ⟨bb, bo + k * 13 + 4, none⟩) hltb).trans (by have := hc 4 (by decide); rw [eC] at this; exact this)
      have c5 : wr.cell? ⟨bb, bo + k * 13 + 5, none⟩ = some (.int .i64 b.len) := (hbel.cell (p := ⟨bb, bo + k * 13 + 5, none⟩) hltb).trans (by have := hc 5 (by decide); rw [eC] at this; exact this)
      have c6 : wr.cell? ⟨bb, bo + k * 13 + 6, none⟩ = some (.int .i64 b.hei) := (hbel.cell (p := ⟨bb, bo + k * 13 + 6, none⟩) hltb).trans (by have := hc 6 (by decide); rw [eC] at this; exact this)
      have c7 : wr.cell? ⟨bb, bo + k * 13 + 7, none⟩ = some (.int .i64 b.cl) := (hbel.cell (p := ⟨bb, bo + k * 13 + 7, none⟩) hltb).trans (by have := hc 7 (by decide); rw [eC] at this; exact this)
      have c8 : wr.cell? ⟨bb, bo + k * 13 + 8, none⟩ = some (.bool b.all) := (hbel.cell (p := ⟨bb, bo + k * 13 + 8, none⟩) hltb).trans (by have := hc 8 (by decide); rw [eC] at this; exact this)
      have c9 : wr.cell? ⟨bb, bo + k * 13 + 9, none⟩ = some (.int .i64 b.be) := (hbel.cell (p := ⟨bb, bo + k * 13 + 9, none⟩) hltb).trans (by have := hc 9 (by decide); rw [eC] at this; exact this)
      have c10 : wr.cell? ⟨bb, bo + k * 13 + 10, none⟩ = some (.int .i64 b.state) := (hbel.cell (p := ⟨bb, bo + k * 13 + 10, none⟩) hltb).trans (by have := hc 10 (by decide); rw [eC] at this; exact this)
      have c11 : wr.cell? ⟨bb, bo + k * 13 + 11, none⟩ = some (.int .i64 b.unt) := (hbel.cell (p := ⟨bb, bo + k * 13 + 11, none⟩) hltb).trans (by have := hc 11 (by decide); rw [eC] at this; exact this)
      have c12 : wr.cell? ⟨bb, bo + k * 13 + 12, none⟩ = some (.int .i64 b.price) := (hbel.cell (p := ⟨bb, bo + k * 13 + 12, none⟩) hltb).trans (by have := hc 12 (by decide); rw [eC] at this; exact this)
      clear hc eC hb hlg
      have hbx := push hbel (.cells #[.int .i64 b.name, .int .i64 b.who, .string b.own, .slice alg b.lgn clg, .int .i64 b.pe, .int .i64 b.len, .int .i64 b.hei, .int .i64 b.cl, .bool b.all, .int .i64 b.be, .int .i64 b.state, .int .i64 b.unt, .int .i64 b.price] 72)
      have hbox := heap_alloc_new wr (.cells #[.int .i64 b.name, .int .i64 b.who, .string b.own, .slice alg b.lgn clg, .int .i64 b.pe, .int .i64 b.len, .int .i64 b.hei, .int .i64 b.cl, .bool b.all, .int .i64 b.be, .int .i64 b.state, .int .i64 b.unt, .int .i64 b.price] 72)
      go_upto_region 6 with fail
      generalize hBx : wr.heap.size = Bx at hbox ⊢
      generalize wr.alloc (.cells #[.int .i64 b.name, .int .i64 b.who, .string b.own, .slice alg b.lgn clg, .int .i64 b.pe, .int .i64 b.len, .int .i64 b.hei, .int .i64 b.cl, .bool b.all, .int .i64 b.be, .int .i64 b.state, .int .i64 b.unt, .int .i64 b.price] 72) = W at hbx hbox ⊢
      clear hBx c0 c1 c2 c3 c4 c5 c6 c7 c8 c9 c10 c11 c12
      have hBW : Bx < W.heap.size := blk_lt hbox
      have z0 : ∀ g : Grown W, g.val.cell? ⟨Bx, 0, none⟩ = some (.int .i64 b.name) := fun g => (g.bel.cell hBW).trans (blk_cell hbox 0 _ rfl)
      have z1 : ∀ g : Grown W, g.val.cell? ⟨Bx, 1, none⟩ = some (.int .i64 b.who) := fun g => (g.bel.cell hBW).trans (blk_cell hbox 1 _ rfl)
      have z2 : ∀ g : Grown W, g.val.cell? ⟨Bx, 2, none⟩ = some (.string b.own) := fun g => (g.bel.cell hBW).trans (blk_cell hbox 2 _ rfl)
      have z3 : ∀ g : Grown W, g.val.cell? ⟨Bx, 3, none⟩ = some (.slice alg b.lgn clg) := fun g => (g.bel.cell hBW).trans (blk_cell hbox 3 _ rfl)
      have z4 : ∀ g : Grown W, g.val.cell? ⟨Bx, 4, none⟩ = some (.int .i64 b.pe) := fun g => (g.bel.cell hBW).trans (blk_cell hbox 4 _ rfl)
      have z5 : ∀ g : Grown W, g.val.cell? ⟨Bx, 5, none⟩ = some (.int .i64 b.len) := fun g => (g.bel.cell hBW).trans (blk_cell hbox 5 _ rfl)
      have z6 : ∀ g : Grown W, g.val.cell? ⟨Bx, 6, none⟩ = some (.int .i64 b.hei) := fun g => (g.bel.cell hBW).trans (blk_cell hbox 6 _ rfl)
      have z7 : ∀ g : Grown W, g.val.cell? ⟨Bx, 7, none⟩ = some (.int .i64 b.cl) := fun g => (g.bel.cell hBW).trans (blk_cell hbox 7 _ rfl)
      have z8 : ∀ g : Grown W, g.val.cell? ⟨Bx, 8, none⟩ = some (.bool b.all) := fun g => (g.bel.cell hBW).trans (blk_cell hbox 8 _ rfl)
      have z9 : ∀ g : Grown W, g.val.cell? ⟨Bx, 9, none⟩ = some (.int .i64 b.be) := fun g => (g.bel.cell hBW).trans (blk_cell hbox 9 _ rfl)
      have z10 : ∀ g : Grown W, g.val.cell? ⟨Bx, 10, none⟩ = some (.int .i64 b.state) := fun g => (g.bel.cell hBW).trans (blk_cell hbox 10 _ rfl)
      have z11 : ∀ g : Grown W, g.val.cell? ⟨Bx, 11, none⟩ = some (.int .i64 b.unt) := fun g => (g.bel.cell hBW).trans (blk_cell hbox 11 _ rfl)
      have z12 : ∀ g : Grown W, g.val.cell? ⟨Bx, 12, none⟩ = some (.int .i64 b.price) := fun g => (g.bel.cell hBW).trans (blk_cell hbox 12 _ rfl)
      clear hbox
      have hwk : IntKind.i64.wrap ((k : Int) + 1) = (k : Int) + 1 := by rw [IntKind.wrap_i64]; omega
      have hk0 : (0 : Int) ≤ (k : Int) := by omega
      have hkc : (k : Int) ≤ (cbk : Int) := by omega
      have hkc2 : k ≤ cbk := by omega
      by_cases p1 : b.name = (k : Int) + 1
      case neg =>
        have e1 : (b.name != (k : Int) + 1) = true := by simpa using p1
        have HN : Hid (¬ (x.bkn ≤ 30 ∧ ∀ i, i < x.bkn → BookOk x i)) := fun h => p1 (by rw [HB.out]; exact (book_iff.1 (h.2 k hlt)).1)
        clear p1
        refine wp_region_grow (by kernel_rfl) (by kernel_rfl) ?_
        repeat (first | go_big_quiet_skip | (go_big_quiet_want; go_big_quiet_op; first | go_big_quiet_on))
        refine wpQuiet_nil ?_
        rintro _ ⟨g, rfl⟩
        go_wp2
        go_ret
        exact ⟨says_no HN.out, after hbx g.bel⟩
      have e1 : (b.name != (k : Int) + 1) = false := by simpa using p1
      have P1 : Hid (b.name = (k : Int) + 1) := p1
      clear p1
      by_cases p2 : In b.who 1 9999 ∧ ¬ Has (whoB x.bk) k b.who
      case neg =>
        have P2 : Hid (¬ (In b.who 1 9999 ∧ ¬ Has (whoB x.bk) k b.who)) := p2
        have HN : Hid (¬ (x.bkn ≤ 30 ∧ ∀ i, i < x.bkn → BookOk x i)) := fun h => p2 (by rw [HB.out]; exact (book_iff.1 (h.2 k hlt)).2.1)
        clear p2
        refine wp_region_grow (by kernel_rfl) (by kernel_rfl) ?_
        repeat (first | go_big_quiet_skip | (go_big_quiet_want; go_big_quiet_op; first | go_big_quiet_on | (apply Exists.intro; refine ⟨fun g => ?_, ?_⟩; (focus (go_at_call 110; refine grown_call (v := .bool false) ((isNewBy_any _ k cbk x.bk b.who _ (by omega) ⟨C, (HC.out.upto (by omega)).below (after hbx g.bel), fun j hj => (HI.out j (by omega)).below (after hbx g.bel)⟩).mono ?_); rintro e w2 ⟨⟨bb, rfl, hi⟩, hbb⟩; obtain rfl := Bool.eq_false_iff.2 (fun e => P2.out (hi.1 e)); exact ⟨rfl, hbb⟩)); go_big_quiet_on)))
        refine wpQuiet_nil ?_
        rintro _ ⟨g, rfl⟩
        go_wp2
        go_ret
        exact ⟨says_no HN.out, after hbx g.bel⟩
      have P2 : Hid (In b.who 1 9999 ∧ ¬ Has (whoB x.bk) k b.who) := p2
      clear p2
      by_cases p3 : BookG x.san x.sa b
      case neg =>
        have P3 : Hid (¬ BookG x.san x.sa b) := p3
        have HN : Hid (¬ (x.bkn ≤ 30 ∧ ∀ i, i < x.bkn → BookOk x i)) := fun h => p3 (by rw [HB.out]; exact (book_iff.1 (h.2 k hlt)).2.2)
        clear p3
        refine wp_region_grow (by kernel_rfl) (by kernel_rfl) ?_
        repeat (first | go_big_quiet_skip | (go_big_quiet_want; go_big_quiet_op; first | go_big_quiet_on | (apply Exists.intro; refine ⟨fun g => ?_, ?_⟩; (focus (go_at_call 110; refine grown_call (v := .bool true) ((isNewBy_any _ k cbk x.bk b.who _ (by omega) ⟨C, (HC.out.upto (by omega)).below (after hbx g.bel), fun j hj => (HI.out j (by omega)).below (after hbx g.bel)⟩).mono ?_); rintro e w2 ⟨⟨bb, rfl, hi⟩, hbb⟩; obtain rfl := hi.2 P2.out; exact ⟨rfl, hbb⟩)); go_big_quiet_on) | (apply Exists.intro; refine ⟨fun g => ?_, ?_⟩; (focus (go_at_call 111; refine grown_call (v := .bool false) ((goodBooking_any x.san x.sa asa csa b alg clg _ n1 HSH.out.1.2 HSB.out HT.out (HSA.out.below (after hbx g.bel)) (HLG.out.below (after hbx g.bel))).mono ?_); rintro e w2 ⟨⟨bb, rfl, hi⟩, hbb⟩; obtain rfl := Bool.eq_false_iff.2 (fun e => P3.out (hi.1 e)); exact ⟨rfl, hbb⟩)); go_big_quiet_on)))
        refine wpQuiet_nil ?_
        rintro _ ⟨g, rfl⟩
        go_wp2
        go_ret
        exact ⟨says_no HN.out, after hbx g.bel⟩
      have P3 : Hid (BookG x.san x.sa b) := p3
      have HK : Hid (BookOk x k) := book_iff.2 (by rw [← HB.out]; exact ⟨P1.out, P2.out, p3⟩)
      clear p3
      refine wp_region_grow (by kernel_rfl) (by kernel_rfl) ?_
      repeat (first | go_big_quiet_skip | (go_big_quiet_want; go_big_quiet_op; first | go_big_quiet_on | (apply Exists.intro; refine ⟨fun g => ?_, ?_⟩; (focus (go_at_call 110; refine grown_call (v := .bool true) ((isNewBy_any _ k cbk x.bk b.who _ (by omega) ⟨C, (HC.out.upto (by omega)).below (after hbx g.bel), fun j hj => (HI.out j (by omega)).below (after hbx g.bel)⟩).mono ?_); rintro e w2 ⟨⟨bb, rfl, hi⟩, hbb⟩; obtain rfl := hi.2 P2.out; exact ⟨rfl, hbb⟩)); go_big_quiet_on) | (apply Exists.intro; refine ⟨fun g => ?_, ?_⟩; (focus (go_at_call 111; refine grown_call (v := .bool true) ((goodBooking_any x.san x.sa asa csa b alg clg _ n1 HSH.out.1.2 HSB.out HT.out (HSA.out.below (after hbx g.bel)) (HLG.out.below (after hbx g.bel))).mono ?_); rintro e w2 ⟨⟨bb, rfl, hi⟩, hbb⟩; obtain rfl := hi.2 P3.out; exact ⟨rfl, hbb⟩)); go_big_quiet_on)))
      refine wpQuiet_nil ?_
      rintro _ ⟨g, rfl⟩
      go_wp2
      go_roundw
      case rel => exact ⟨k + 1, by omega, by go_num, fun j hj => by
        by_cases e : j = k
        · subst e; exact HK.out
        · exact HA.out j (by omega), after hbx g.bel⟩
      case measure => simp [intOf]; omega
    · obtain rfl : k = x.bkn := by omega
      go_wp2
      go_ret
      exact ⟨says_yes ⟨g1, HA.out⟩, hbel⟩
theorem implOff_raw (x : Off) (asa ald abk : Option Addr) (csa cld cbk : Nat) (w : World) (hs : Off.Short x 1048576) (hsa : SailsAt w asa x.san x.sa) (hld : LoadsAt w ald x.ldn x.ld) (hbk : BooksAt w abk x.bkn x.bk) (hcb : x.bkn ≤ cbk) :
    Calls Tryz.prog 25 #[.agg #[.slice asa x.san csa, .slice ald x.ldn cld, .slice abk x.bkn cbk]] w fun e w' => SaysIf (OffOk x) e ∧ Below w.heap.size w w' := by
  have HSA : Hid (SailsAt w asa x.san x.sa) := hsa
  have HLD : Hid (LoadsAt w ald x.ldn x.ld) := hld
  have HBK : Hid (BooksAt w abk x.bkn x.bk) := hbk
  have HSH : Hid (Off.Short x 1048576) := hs
  have n1 : x.san ≤ 1048576 := hs.1.1
  clear hsa hld hbk hs
  have hb0 : Below w.heap.size w (w.alloc (.cells #[.slice asa x.san csa, .slice ald x.ldn cld, .slice abk x.bkn cbk] 39)) := push (Below.refl _ _) _
  have bO := heap_alloc_new w (.cells #[.slice asa x.san csa, .slice ald x.ldn cld, .slice abk x.bkn cbk] 39)
  go_enter Tryz.func25, Tryz.ntmps25
  go_wp2_with fail
  generalize w.alloc (.cells #[.slice asa x.san csa, .slice ald x.ldn cld, .slice abk x.bkn cbk] 39) = V at hb0 bO ⊢
  refine (implTab_any asa x.san csa x.sa _ n1 HSH.out.1.2 (HSA.out.below hb0)).mono ?_
  rintro e V0 ⟨⟨t0, rfl, ht0⟩, hbv⟩
  have HT0 : Hid (t0 = true ↔ GoodTab x.san x.sa) := ht0
  have bO' := blk_below bO hbv
  have hb0' := after hb0 hbv
  clear bO hb0 hbv ht0
  have bO := bO'
  have hb0 := hb0'
  clear bO' hb0'
  have o0 := blk_cell bO 0 _ rfl
  have o1 := blk_cell bO 1 _ rfl
  have o2 := blk_cell bO 2 _ rfl
  cases t0 with
  | false =>
    have HN : Hid (¬ OffOk x) := fun h => by have := HT0.out.2 (h.1); cases this
    go_wp2
    go_ret
    exact ⟨says_no HN.out, hb0⟩
  | true =>
  have HP0 : Hid (GoodTab x.san x.sa) := HT0.out.1 rfl
  clear HT0
  go_wp2_with fail
  clear o0 o1 o2
  refine (goodLoads_any x asa ald csa cld _ HSH.out (HSA.out.below hb0) (HLD.out.below hb0)).mono ?_
  rintro e V1 ⟨⟨t1, rfl, ht1⟩, hbv⟩
  have HT1 : Hid (t1 = true ↔ x.ldn = x.san ∧ ∀ k, k < x.san → LoadOk (x.sa k) (x.ld k)) := ht1
  have bO' := blk_below bO hbv
  have hb0' := after hb0 hbv
  clear bO hb0 hbv ht1
  have bO := bO'
  have hb0 := hb0'
  clear bO' hb0'
  have o0 := blk_cell bO 0 _ rfl
  have o1 := blk_cell bO 1 _ rfl
  have o2 := blk_cell bO 2 _ rfl
  cases t1 with
  | false =>
    have HN : Hid (¬ OffOk x) := fun h => by have := HT1.out.2 (⟨h.2.1, h.2.2.2.1⟩); cases this
    go_wp2
    go_ret
    exact ⟨says_no HN.out, hb0⟩
  | true =>
  have HP1 : Hid (x.ldn = x.san ∧ ∀ k, k < x.san → LoadOk (x.sa k) (x.ld k)) := HT1.out.1 rfl
  clear HT1
  go_wp2_with fail
  clear o0 o1 o2
  refine (goodBookings_any x asa abk csa cbk _ HSH.out HP0.out (HSA.out.below hb0) (HBK.out.below hb0) hcb).mono ?_
  rintro e V2 ⟨⟨t2, rfl, ht2⟩, hbv⟩
  have HT2 : Hid (t2 = true ↔ x.bkn ≤ 30 ∧ ∀ i, i < x.bkn → BookOk x i) := ht2
  have bO' := blk_below bO hbv
  have hb0' := after hb0 hbv
  clear bO hb0 hbv ht2
  have bO := bO'
  have hb0 := hb0'
  clear bO' hb0'
  have o0 := blk_cell bO 0 _ rfl
  have o1 := blk_cell bO 1 _ rfl
  have o2 := blk_cell bO 2 _ rfl
  cases t2 with
  | false =>
    have HN : Hid (¬ OffOk x) := fun h => by have := HT2.out.2 (⟨h.2.2.1, h.2.2.2.2.1⟩); cases this
    go_wp2
    go_ret
    exact ⟨says_no HN.out, hb0⟩
  | true =>
  have HP2 : Hid (x.bkn ≤ 30 ∧ ∀ i, i < x.bkn → BookOk x i) := HT2.out.1 rfl
  clear HT2
  go_wp2
  clear o0 o1 o2
  obtain ⟨C, hC, hI⟩ := HBK.out
  have HC : Hid (RecsAt w abk x.bkn 13 C) := hC
  have HI : Hid (∀ k, k < x.bkn → Book.Is w (C k) (x.bk k)) := hI
  have HBO : Hid (V2.heap[w.heap.size]? = some (.cells #[.slice asa x.san csa, .slice ald x.ldn cld, .slice abk x.bkn cbk] 39 (0, 0))) := bO
  have HB0 : Hid (Below w.heap.size w V2) := hb0
  clear hC hI bO hb0
  go_loopw [3, 4, 28] (fun _ _ i wr => ∃ k : Nat, k ≤ x.san ∧ i = .int .i64 k ∧ (∀ j, j < k → Tallies x j) ∧ Below V2.heap.size V2 wr) (fun _ _ i _ => x.san - (intOf i).toNat)
  case atStart => exact ⟨0, Nat.zero_le _, rfl, fun j hj => by omega, Below.refl _ _⟩
  case round =>
    obtain ⟨k, hk, rfl, hall, hbel⟩ := hrel
    have HA : Hid (∀ j, j < k → Tallies x j) := hall
    clear hall
    by_cases hlt : k < x.san
    · have hbw := after HB0.out hbel
      obtain ⟨sb, so, la, lc, ca, cc, rfl, f0, f1, f2, f3, f4, f5, f6, f7, hla, hca, sla, sca⟩ := HSA.out k hlt
      obtain ⟨s, hsd⟩ : ∃ s, s = x.sa k := ⟨_, rfl⟩
      rw [← hsd] at f0 f1 f2 f3 f4 f5 f6 f7 hla hca sla sca
      have HSD : Hid (s = x.sa k) := hsd
      have lsb := World.block_lt_of_cell? w _ f0
      have c0 := (hbw.cell (p := ⟨sb, so + k * 8, none⟩) lsb).trans f0
      have c1 := (hbw.cell (p := ⟨sb, so + k * 8 + 1, none⟩) lsb).trans f1
      have c2 := (hbw.cell (p := ⟨sb, so + k * 8 + 2, none⟩) lsb).trans f2
      have c3 := (hbw.cell (p := ⟨sb, so + k * 8 + 3, none⟩) lsb).trans f3
      have c4 := (hbw.cell (p := ⟨sb, so + k * 8 + 4, none⟩) lsb).trans f4
      have c5 := (hbw.cell (p := ⟨sb, so + k * 8 + 5, none⟩) lsb).trans f5
      have c6 := (hbw.cell (p := ⟨sb, so + k * 8 + 6, none⟩) lsb).trans f6
      have c7 := (hbw.cell (p := ⟨sb, so + k * 8 + 7, none⟩) lsb).trans f7
      obtain ⟨D, hD, hJ⟩ := HLD.out
      have hk2 : k < x.ldn := by have := HP1.out.1; omega
      obtain ⟨lb, lo, rfl, hc⟩ := hD k hk2
      obtain ⟨l, hld⟩ : ∃ l, l = x.ld k := ⟨_, rfl⟩
      have hlh := HSH.out.2.1.2 k hk2
      obtain ⟨ast, cst, aro, cro, ase, cse, eC, hst, sst, hro, sro, hse, sse⟩ := hJ k hk2
      rw [← hld] at eC hst sst hro sro hse sse hlh
      have HLL : Hid (l = x.ld k) := hld
      have llb : lb < w.heap.size := World.block_lt_of_cell? w _ (hc 0 (by decide))
      have HD : Hid (∀ w', Below w.heap.size w w' → w'.cell? ⟨lb, lo + k * 3, none⟩ = some (.slice ast l.stn cst) ∧ w'.cell? ⟨lb, lo + k * 3 + 1, none⟩ = some (.slice aro l.ron cro) ∧ w'.cell? ⟨lb, lo + k * 3 + 2, none⟩ = some (.slice ase l.sen cse)) := fun w' h =>
        ⟨(h.cell (p := ⟨lb, lo + k * 3, none⟩) llb).trans (by have := hc 0 (by decide); rw [eC] at this; exact this), (h.cell (p := ⟨lb, lo + k * 3 + 1, none⟩) llb).trans (by have := hc 1 (by decide); rw [eC] at this; exact this), (h.cell (p := ⟨lb, lo + k * 3 + 2, none⟩) llb).trans (by have := hc 2 (by decide); rw [eC] at this; exact this)⟩
      have HCA : Hid (PairsAt w ca s.ca) := hca
      have HST : Hid (StaysAt w ast l.stn l.st) := hst
      have HRO : Hid (RoomsAt w aro l.ron l.ro) := hro
      have HSE : Hid (SeatsAt w ase l.sen l.se) := hse
      have HLH : Hid (Load.Short l 1048576) := hlh
      have hok := HP1.out.2 k hlt
      rw [← hsd, ← hld] at hok
      have HOK : Hid (LoadOk s l) := hok
      have h0 : (0 : Int) ≤ (k : Int) := by omega
      have h1 : (k : Int) < (x.ldn : Int) := by omega
      clear hD hJ hc eC hsd hld f0 f1 f2 f3 f4 f5 f6 f7 hla hca sla sca hst sst hro sro hse sse hlh hk2 hok
      have hbx := push hbel (.cells #[.int .i64 s.id, .string s.fr, .string s.dst, .int .i64 s.dep, .int .i64 s.arr, .slice la s.la.n lc, .slice ca s.ca.n cc, .int .i64 s.most] 54)
      have hbox := heap_alloc_new wr (.cells #[.int .i64 s.id, .string s.fr, .string s.dst, .int .i64 s.dep, .int .i64 s.arr, .slice la s.la.n lc, .slice ca s.ca.n cc, .int .i64 s.most] 54)
      go_upto_region 6 with fail
      generalize hBx : wr.heap.size = Bx at hbox ⊢
      generalize wr.alloc (.cells #[.int .i64 s.id, .string s.fr, .string s.dst, .int .i64 s.dep, .int .i64 s.arr, .slice la s.la.n lc, .slice ca s.ca.n cc, .int .i64 s.most] 54) = X at hbx hbox ⊢
      clear hBx c0 c1 c2 c3 c4 c5 c6 c7 hbel hbw
      have bO := blk_below HBO.out hbx
      have hbX := after HB0.out hbx
      have BW : Hid (∀ w', Below X.heap.size X w' → Below w.heap.size w w') := fun w' h => after hbX h
      have KS : Hid (∀ w', Below X.heap.size X w' → (w'.cell? ⟨Bx, 0, none⟩ = some (.int .i64 s.id) ∧ w'.cell? ⟨Bx, 1, none⟩ = some (.string s.fr) ∧ w'.cell? ⟨Bx, 2, none⟩ = some (.string s.dst) ∧ w'.cell? ⟨Bx, 3, none⟩ = some (.int .i64 s.dep) ∧ w'.cell? ⟨Bx, 4, none⟩ = some (.int .i64 s.arr) ∧ w'.cell? ⟨Bx, 5, none⟩ = some (.slice la s.la.n lc) ∧ w'.cell? ⟨Bx, 6, none⟩ = some (.slice ca s.ca.n cc) ∧ w'.cell? ⟨Bx, 7, none⟩ = some (.int .i64 s.most) ∧
          w'.cell? ⟨w.heap.size, 1, none⟩ = some (.slice (some ⟨lb, lo, none⟩) x.ldn cld) ∧ w'.cell? ⟨w.heap.size, 2, none⟩ = some (.slice abk x.bkn cbk) ∧
          w'.cell? ⟨lb, lo + k * 3, none⟩ = some (.slice ast l.stn cst) ∧ w'.cell? ⟨lb, lo + k * 3 + 1, none⟩ = some (.slice aro l.ron cro) ∧ w'.cell? ⟨lb, lo + k * 3 + 2, none⟩ = some (.slice ase l.sen cse))) := fun w' h => by
        have g1 := blk_below hbox h
        have g2 := blk_below bO h
        have g3 := HD.out w' (after hbX h)
        exact ⟨blk_cell g1 0 _ rfl, blk_cell g1 1 _ rfl, blk_cell g1 2 _ rfl, blk_cell g1 3 _ rfl, blk_cell g1 4 _ rfl, blk_cell g1 5 _ rfl, blk_cell g1 6 _ rfl, blk_cell g1 7 _ rfl, blk_cell g2 1 _ rfl, blk_cell g2 2 _ rfl, g3.1, g3.2.1, g3.2.2⟩
      obtain ⟨P, hP⟩ : ∃ P : Nat → Prop, P = fun i => OnB (x.bk i) s.id := ⟨_, rfl⟩
      have HC1 : Hid (∀ w', Below w.heap.size w w' → Calls Tryz.prog 65 #[.slice abk x.bkn cbk, .int .i64 s.id] w' fun e w2 => (∃ ao c, e = .returned (.slice ao (onL P x.bkn).length c) ∧ w2.ownsRow w.heap.size 72 13 (.slice ao (onL P x.bkn).length c) (onL P x.bkn).length (onRow C P x.bkn)) ∧ Below w'.heap.size w' w2) := fun w' h =>
        (bookingsOn_any abk x.bkn cbk x.bk C s.id w' HSH.out.2.2.1 HSH.out.2.2.2 (HC.out.below h) (fun j hj => (HI.out j hj).below h)).mono fun _ _ ⟨⟨ao, c, a, _, b⟩, d⟩ => by
          rw [hP]
          exact ⟨⟨ao, c, a, own_base b h.size⟩, d⟩
      have HC2 : Hid (∀ w' ao c, Below w.heap.size w w' → w'.ownsRow w.heap.size 72 13 (.slice ao (onL P x.bkn).length c) (onL P x.bkn).length (onRow C P x.bkn) → Calls Tryz.prog 64 #[.agg #[.int .i64 s.id, .string s.fr, .string s.dst, .int .i64 s.dep, .int .i64 s.arr, .slice la s.la.n lc, .slice ca s.ca.n cc, .int .i64 s.most], .agg #[.slice ast l.stn cst, .slice aro l.ron cro, .slice ase l.sen cse], .slice ao (onL P x.bkn).length c] w' fun e w2 => SaysIf (Tallies x k) e ∧ Below w'.heap.size w' w2) := fun w' ao c h ho => by
        have key : Just s l (onL P x.bkn).length (fun j => x.bk (onI P x.bkn j)) ↔ Tallies x k := by
          have := just_iff (o := x) (k := k) (by rw [← HSD.out, ← HLL.out]; exact HOK.out) (fun i hi => (HP2.out.2 i hi).2.2.2.2.1)
          rw [hP, HSD.out, HLL.out]
          exact this
        refine (holdsJust_any s l (onL P x.bkn).length (fun j => x.bk (onI P x.bkn j)) (fun j => C (onI P x.bkn j)) la ca ast aro ase ao lc cc cst cro cse c w' (Nat.le_trans (onL_le P _) HSH.out.2.2.1) HLH.out (rooms_cab HOK.out.2.1) (HCA.out.below h) (HST.out.below h) (HRO.out.below h) (HSE.out.below h) (RecsAt.of_own ho) (fun j hj => (HI.out _ (onI_is P x.bkn j hj).1).below h)).mono ?_
        rintro e w2 ⟨⟨b, rfl, hb⟩, hd⟩
        exact ⟨⟨b, rfl, by rw [hb, key]⟩, hd⟩
      clear hP bO hbox
      go_cut [28, 45] (fun i c wx => i = .int .i64 k ∧ Tells (Tallies x k) c ∧ Below w.heap.size w wx ∧ Below V2.heap.size V2 wx)
      case first =>
        go_region_held3 (fun w' => w'.cell? ⟨Bx, 0, none⟩ = some (.int .i64 s.id) ∧ w'.cell? ⟨Bx, 1, none⟩ = some (.string s.fr) ∧ w'.cell? ⟨Bx, 2, none⟩ = some (.string s.dst) ∧ w'.cell? ⟨Bx, 3, none⟩ = some (.int .i64 s.dep) ∧ w'.cell? ⟨Bx, 4, none⟩ = some (.int .i64 s.arr) ∧ w'.cell? ⟨Bx, 5, none⟩ = some (.slice la s.la.n lc) ∧ w'.cell? ⟨Bx, 6, none⟩ = some (.slice ca s.ca.n cc) ∧ w'.cell? ⟨Bx, 7, none⟩ = some (.int .i64 s.most) ∧
            w'.cell? ⟨w.heap.size, 1, none⟩ = some (.slice (some ⟨lb, lo, none⟩) x.ldn cld) ∧ w'.cell? ⟨w.heap.size, 2, none⟩ = some (.slice abk x.bkn cbk) ∧
            w'.cell? ⟨lb, lo + k * 3, none⟩ = some (.slice ast l.stn cst) ∧ w'.cell? ⟨lb, lo + k * 3 + 1, none⟩ = some (.slice aro l.ron cro) ∧ w'.cell? ⟨lb, lo + k * 3 + 2, none⟩ = some (.slice ase l.sen cse))
          ((refine KS.out _ ?_; exact (by repeat (first | exact Below.refl _ _ | refine Below.drew ?_ | refine after ?_ hb4 | refine after ?_ hb5))))
          (first
            | (go_at_call 65; refine Calls.mono (HC1.out _ (BW.out _ (by repeat (first | exact Below.refl _ _ | refine Below.drew ?_ | refine after ?_ hb4 | refine after ?_ hb5)))) ?_; rintro e w4 ⟨⟨ao4, c4, rfl, ho4⟩, hb4⟩)
            | (go_at_call 64; refine Calls.mono (HC2.out _ ao4 c4 (BW.out _ (by repeat (first | exact Below.refl _ _ | refine Below.drew ?_ | refine after ?_ hb4 | refine after ?_ hb5))) (own_below (w := w4) (by repeat (first | exact Below.refl _ _ | refine Below.drew ?_ | refine after ?_ hb5)) ho4)) ?_; rintro e w5 ⟨⟨t5, rfl, ht5⟩, hb5⟩))
        all_goals
          go_wp2
          go_meet
          refine ⟨rfl, ?_, BW.out _ (by repeat (first | exact Below.refl _ _ | refine Below.drew ?_ | refine after ?_ hb4 | refine after ?_ hb5)), after hbx (by repeat (first | exact Below.refl _ _ | refine Below.drew ?_ | refine after ?_ hb4 | refine after ?_ hb5))⟩
          cases t5 with
          | true => exact tells_good (ht5.1 rfl)
          | false => exact tells_bad (fun h => by have := ht5.2 h; cases this)
      case rest =>
        obtain ⟨rfl, ⟨t, rfl, ht⟩, hby, hbz⟩ := hcut
        have HT : Hid (t = false ↔ Tallies x k) := ht
        clear ht KS BW HC1 HC2 HD
        cases t with
        | true =>
          have HN : Hid (¬ OffOk x) := fun h => by have := HT.out.2 (h.2.2.2.2.2 k hlt); cases this
          go_wp2
          go_ret
          exact ⟨says_no HN.out, hby⟩
        | false =>
          have HK : Hid (Tallies x k) := HT.out.1 rfl
          clear HT
          go_wp2
          go_roundw
          case rel => exact ⟨k + 1, by omega, by go_num, fun j hj => by
            by_cases e : j = k
            · subst e; exact HK.out
            · exact HA.out j (by omega), hbz⟩
          case measure => simp [intOf]; omega
    · obtain rfl : k = x.san := by omega
      have HY : Hid (OffOk x) := ⟨HP0.out, HP1.out.1, HP2.out.1, HP1.out.2, HP2.out.2, HA.out⟩
      have hbw := after HB0.out hbel
      clear HA
      go_wp2
      go_ret
      exact ⟨says_yes HY.out, hbw⟩
end Go.Proofs.YtlelckbeoclhbaaGreat

namespace Go.Proofs.YtlelckbeoclhbaaGreat
open Go.RowKit
theorem implOffice_any (cs : List Value) (x : Off) (w : World) (hs : Off.Short x 1048576) (h : Off.Is w cs x) :
    Calls Tryz.prog 25 #[.agg cs.toArray] w fun e w' => e = .returned (.bool (decide (OffOk x))) ∧ Below w.heap.size w w' := by
  obtain ⟨asa, csa, ald, cld, abk, cbk, rfl, h1, s1, h2, s2, h3, s3⟩ := h
  exact (implOff_raw x asa ald abk csa cld cbk w hs h1 h2 h3 s3.1).mono fun _ _ ⟨a, b⟩ => ⟨says_decide a, b⟩
end Go.Proofs.YtlelckbeoclhbaaGreat

/-
  OWN TEXT: KitRes, CopyB, OfficeI, SpecRows.
-/
import Derived.Laws.CopyOwn
import Derived.Laws.Tables
import Derived.Deep.DeepCutAuto
import Derived.Deep.RegionHeld3
import Derived.Test.YtlelckbeoclhbaaGreatB00
import Derived.Test.YtlelckbeoclhbaaGreatB02
import Derived.Test.YtlelckbeoclhbaaGreatB25
import Derived.Test.YtlelckbeoclhbaaGreatB06
import Derived.Test.YtlelckbeoclhbaaGreatB26
import Derived.Test.YtlelckbeoclhbaaGreatB16
import Derived.Test.YtlelckbeoclhbaaGreatB12
import Derived.Test.YtlelckbeoclhbaaGreatB28
import Derived.Test.YtlelckbeoclhbaaGreatB15
import Derived.Test.YtlelckbeoclhbaaGreatB14
set_option maxHeartbeats 12800000
set_option maxRecDepth 100000
namespace Go.Proofs.YtlelckbeoclhbaaGreat
open Go.RowKit
theorem results_cell {P : Program} {fn : Func} {tmps : Array Value} {w : World} {r : Nat} {t : TypeId} {a : Addr} {v : Value} (hf : fn.results = #[.cell r t]) (ht : tmps.getD r undef = .pointer (some a)) (hl : (loadVar t a).run P w = .ok v w) :
    (results fn tmps).run P w = .ok v w := by
  have ha : (asAddr (.pointer (some a))).run P w = .ok a w := by simp [asAddr, go_sem]
  unfold results
  rw [hf]
  simp only [List.mapM_toArray, List.mapM_cons, List.mapM_nil, Sem.run_bind, ht]
  simp [↓ha, ↓hl]
end Go.Proofs.YtlelckbeoclhbaaGreat

namespace Go.Proofs.YtlelckbeoclhbaaGreat
open Go.RowKit
theorem Tryz.sizeBk : (Tryz.prog.info? 72).map (·.size) = some 13 := by kernel_rfl
theorem copyBooking_any (y : Book) (ad : Addr) (lc : Nat) (w : World) (hn : y.lgn ≤ 1048576) (hx : IntsAt w (some ad) y.lgn y.lg) :
    Calls Tryz.prog 27 #[.agg #[.int .i64 y.name, .int .i64 y.who, .string y.own, .slice (some ad) y.lgn lc, .int .i64 y.pe, .int .i64 y.len, .int .i64 y.hei, .int .i64 y.cl, .bool y.all, .int .i64 y.be, .int .i64 y.state, .int .i64 y.unt, .int .i64 y.price]] w fun e w' => (∃ a3 c3, e = .returned (.agg #[.int .i64 y.name, .int .i64 y.who, .string y.own, .slice a3 y.lgn c3, .int .i64 y.pe, .int .i64 y.len, .int .i64 y.hei, .int .i64 y.cl, .bool y.all, .int .i64 y.be, .int .i64 y.state, .int .i64 y.unt, .int .i64 y.price]) ∧ w'.ownsRow w.heap.size 3 1 (.slice a3 y.lgn c3) y.lgn (intList y.lg y.lgn)) ∧ Below w.heap.size w w' := by
  have hb0 : Below w.heap.size w ((w.alloc (.cells #[.int .i64 y.name, .int .i64 y.who, .string y.own, .slice (some ad) y.lgn lc, .int .i64 y.pe, .int .i64 y.len, .int .i64 y.hei, .int .i64 y.cl, .bool y.all, .int .i64 y.be, .int .i64 y.state, .int .i64 y.unt, .int .i64 y.price] 72)).alloc (.cells #[.int .i64 0, .int .i64 0, .string ⟨#[]⟩, .slice none 0 0, .int .i64 0, .int .i64 0, .int .i64 0, .int .i64 0, .bool false, .int .i64 0, .int .i64 0, .int .i64 0, .int .i64 0] 72)) := push (push (Below.refl _ _) _) _
  have bX : ((w.alloc (.cells #[.int .i64 y.name, .int .i64 y.who, .string y.own, .slice (some ad) y.lgn lc, .int .i64 y.pe, .int .i64 y.len, .int .i64 y.hei, .int .i64 y.cl, .bool y.all, .int .i64 y.be, .int .i64 y.state, .int .i64 y.unt, .int .i64 y.price] 72)).alloc (.cells #[.int .i64 0, .int .i64 0, .string ⟨#[]⟩, .slice none 0 0, .int .i64 0, .int .i64 0, .int .i64 0, .int .i64 0, .bool false, .int .i64 0, .int .i64 0, .int .i64 0, .int .i64 0] 72)).heap[w.heap.size]? = some (.cells #[.int .i64 y.name, .int .i64 y.who, .string y.own, .slice (some ad) y.lgn lc, .int .i64 y.pe, .int .i64 y.len, .int .i64 y.hei, .int .i64 y.cl, .bool y.all, .int .i64 y.be, .int .i64 y.state, .int .i64 y.unt, .int .i64 y.price] 72 (0, 0)) := blk_alloc (heap_alloc_new w _) _
  have bR : ((w.alloc (.cells #[.int .i64 y.name, .int .i64 y.who, .string y.own, .slice (some ad) y.lgn lc, .int .i64 y.pe, .int .i64 y.len, .int .i64 y.hei, .int .i64 y.cl, .bool y.all, .int .i64 y.be, .int .i64 y.state, .int .i64 y.unt, .int .i64 y.price] 72)).alloc (.cells #[.int .i64 0, .int .i64 0, .string ⟨#[]⟩, .slice none 0 0, .int .i64 0, .int .i64 0, .int .i64 0, .int .i64 0, .bool false, .int .i64 0, .int .i64 0, .int .i64 0, .int .i64 0] 72)).heap[w.heap.size + 1]? = some (.cells #[.int .i64 0, .int .i64 0, .string ⟨#[]⟩, .slice none 0 0, .int .i64 0, .int .i64 0, .int .i64 0, .int .i64 0, .bool false, .int .i64 0, .int .i64 0, .int .i64 0, .int .i64 0] 72 (0, 0)) := by
    have h := heap_alloc_new (w.alloc (.cells #[.int .i64 y.name, .int .i64 y.who, .string y.own, .slice (some ad) y.lgn lc, .int .i64 y.pe, .int .i64 y.len, .int .i64 y.hei, .int .i64 y.cl, .bool y.all, .int .i64 y.be, .int .i64 y.state, .int .i64 y.unt, .int .i64 y.price] 72)) (.cells #[.int .i64 0, .int .i64 0, .string ⟨#[]⟩, .slice none 0 0, .int .i64 0, .int .i64 0, .int .i64 0, .int .i64 0, .bool false, .int .i64 0, .int .i64 0, .int .i64 0, .int .i64 0] 72)
    rw [show (w.alloc (.cells #[.int .i64 y.name, .int .i64 y.who, .string y.own, .slice (some ad) y.lgn lc, .int .i64 y.pe, .int .i64 y.len, .int .i64 y.hei, .int .i64 y.cl, .bool y.all, .int .i64 y.be, .int .i64 y.state, .int .i64 y.unt, .int .i64 y.price] 72)).heap.size = w.heap.size + 1 by simp] at h
    exact h
  have hs0 : ((w.alloc (.cells #[.int .i64 y.name, .int .i64 y.who, .string y.own, .slice (some ad) y.lgn lc, .int .i64 y.pe, .int .i64 y.len, .int .i64 y.hei, .int .i64 y.cl, .bool y.all, .int .i64 y.be, .int .i64 y.state, .int .i64 y.unt, .int .i64 y.price] 72)).alloc (.cells #[.int .i64 0, .int .i64 0, .string ⟨#[]⟩, .slice none 0 0, .int .i64 0, .int .i64 0, .int .i64 0, .int .i64 0, .bool false, .int .i64 0, .int .i64 0, .int .i64 0, .int .i64 0] 72)).heap.size = w.heap.size + 2 := by simp
  have x3 := blk_cell bX 3 _ rfl
  go_enter Tryz.func27, Tryz.ntmps27
  go_upto_region 1 with fail
  generalize (w.alloc (.cells #[.int .i64 y.name, .int .i64 y.who, .string y.own, .slice (some ad) y.lgn lc, .int .i64 y.pe, .int .i64 y.len, .int .i64 y.hei, .int .i64 y.cl, .bool y.all, .int .i64 y.be, .int .i64 y.state, .int .i64 y.unt, .int .i64 y.price] 72)).alloc (.cells #[.int .i64 0, .int .i64 0, .string ⟨#[]⟩, .slice none 0 0, .int .i64 0, .int .i64 0, .int .i64 0, .int .i64 0, .bool false, .int .i64 0, .int .i64 0, .int .i64 0, .int .i64 0] 72) = V at hb0 bX bR hs0 x3 ⊢
  go_wp2_with fail
  refine (cloneInts ad y.lgn lc y.lg V hn (hx.below hb0)).mono ?_
  rintro e w2 ⟨⟨v, rfl, ho⟩, hb2⟩
  obtain ⟨a3, c3, rfl, _⟩ := own_form ho
  have bX2 := blk_below bX hb2
  have bR2 := blk_below bR hb2
  have y3 := blk_cell bX2 3 _ rfl
  have f3 := blk_free bX2 3
  have hk : Kept w2 (w2.setCell ⟨w.heap.size, 3, none⟩ (.slice a3 y.lgn c3)) (fun b => b = w.heap.size) := (Kept.refl w2 (fun b => b = w.heap.size)).set (a := ⟨w.heap.size, 3, none⟩) rfl _
  have bX3 : (w2.setCell ⟨w.heap.size, 3, none⟩ (.slice a3 y.lgn c3)).heap[w.heap.size]? = some (.cells #[.int .i64 y.name, .int .i64 y.who, .string y.own, .slice a3 y.lgn c3, .int .i64 y.pe, .int .i64 y.len, .int .i64 y.hei, .int .i64 y.cl, .bool y.all, .int .i64 y.be, .int .i64 y.state, .int .i64 y.unt, .int .i64 y.price] 72 (0, 0)) := by simpa using blk_set bX2 3 (.slice a3 y.lgn c3)
  have bR3 : (w2.setCell ⟨w.heap.size, 3, none⟩ (.slice a3 y.lgn c3)).heap[w.heap.size + 1]? = some (.cells #[.int .i64 0, .int .i64 0, .string ⟨#[]⟩, .slice none 0 0, .int .i64 0, .int .i64 0, .int .i64 0, .int .i64 0, .bool false, .int .i64 0, .int .i64 0, .int .i64 0, .int .i64 0] 72 (0, 0)) := blk_set_other bR2 3 _ (by omega)
  have ho3 := hk.own ho (fun g e1 e2 => by have e2 : g = w.heap.size := e2; have := (World.ownsRow.lt ho g e1).1; omega)
  have hb3 : Below w.heap.size w (w2.setCell ⟨w.heap.size, 3, none⟩ (.slice a3 y.lgn c3)) := (after hb0 hb2).setCell (p := ⟨w.heap.size, 3, none⟩) (Nat.le_refl _) _
  clear x3 bX bR hb2 bX2 bR2
  go_upto_region 2 with fail
  generalize w2.setCell ⟨w.heap.size, 3, none⟩ (.slice a3 y.lgn c3) = W at bX3 bR3 ho3 hb3 ⊢
  clear y3 f3 hk ho
  refine wp_region_lit ?_
  refine wpList_load_row rfl _ _ rfl w.heap.size rfl _ _ (0, 0) _ bX3 Tryz.underlying72 rfl Tryz.sizeBk ?_
  refine wpList_store_row rfl _ _ _ rfl (w.heap.size + 1) _ rfl rfl _ _ bR3 Tryz.sizeBk rfl (by simp [Value.oneCell']) ?_
  obtain ⟨F, hF⟩ : ∃ F, F = W.setRow (w.heap.size + 1) #[.int .i64 y.name, .int .i64 y.who, .string y.own, .slice a3 y.lgn c3, .int .i64 y.pe, .int .i64 y.len, .int .i64 y.hei, .int .i64 y.cl, .bool y.all, .int .i64 y.be, .int .i64 y.state, .int .i64 y.unt, .int .i64 y.price] := ⟨_, rfl⟩
  have RF : F.heap[w.heap.size + 1]? = some (.cells #[.int .i64 y.name, .int .i64 y.who, .string y.own, .slice a3 y.lgn c3, .int .i64 y.pe, .int .i64 y.len, .int .i64 y.hei, .int .i64 y.cl, .bool y.all, .int .i64 y.be, .int .i64 y.state, .int .i64 y.unt, .int .i64 y.price] 72 (0, 0)) := by rw [hF]; exact setRow_heap _ _ _ _ _ _ bR3
  have HF : Below w.heap.size w F := by rw [hF]; exact below_setRow hb3 (by omega) _
  have hoF : F.ownsRow V.heap.size 3 1 (.slice a3 y.lgn c3) y.lgn (intList y.lg y.lgn) := by
    have hkF : Kept W F (fun b => b = w.heap.size + 1) := by rw [hF]; exact ⟨rfl, rfl, rfl, (below_setRow (Below.refl 0 W) (Nat.zero_le _) _).size, fun k _ hne => setRow_other _ _ _ _ hne⟩
    exact hkF.own ho3 (fun g e1 e2 => by have e2 : g = w.heap.size + 1 := e2; have := (World.ownsRow.lt ho3 g e1).1; omega)
  rw [← hF]
  clear hF
  have hl := run_loadVar_row (P := Tryz.prog) F (w.heap.size + 1) 72 72 _ (0, 0) _ RF Tryz.underlying72 rfl Tryz.sizeBk
  go_wp2
  exact bodyPost_ret (v := .agg #[.int .i64 y.name, .int .i64 y.who, .string y.own, .slice a3 y.lgn c3, .int .i64 y.pe, .int .i64 y.len, .int .i64 y.hei, .int .i64 y.cl, .bool y.all, .int .i64 y.be, .int .i64 y.state, .int .i64 y.unt, .int .i64 y.price]) (results_cell Tryz.results27 rfl hl) rfl ⟨⟨a3, c3, rfl, own_base hoF (by omega)⟩, HF⟩
theorem list13 {l : List Value} (h : l.length = 13) : ∃ u0 u1 u2 u3 u4 u5 u6 u7 u8 u9 u10 u11 u12, l = [u0, u1, u2, u3, u4, u5, u6, u7, u8, u9, u10, u11, u12] := by
  refine ⟨l[0], l[1], l[2], l[3], l[4], l[5], l[6], l[7], l[8], l[9], l[10], l[11], l[12], ?_⟩
  apply List.ext_getElem
  · simpa using h
  · intro i h1 h2
    have h3 : i < 13 := by omega
    have h4 : i = 0 ∨ i = 1 ∨ i = 2 ∨ i = 3 ∨ i = 4 ∨ i = 5 ∨ i = 6 ∨ i = 7 ∨ i = 8 ∨ i = 9 ∨ i = 10 ∨ i = 11 ∨ i = 12 := by omega
    rcases h4 with rfl | rfl | rfl | rfl | rfl | rfl | rfl | rfl | rfl | rfl | rfl | rfl | rfl <;> rfl
structure BksTo (w : World) (base g k N : Nat) (S : Nat → Book) (L : Nat → Value) : Prop where
  row : w.ownsRow base 72 13 (.slice (some ⟨g, 0, none⟩) N N) N ((List.range (N * 13)).map (recCell 13 (upto k (bkC S L) [.int .i64 0, .int .i64 0, .string ⟨#[]⟩, .slice none 0 0, .int .i64 0, .int .i64 0, .int .i64 0, .int .i64 0, .bool false, .int .i64 0, .int .i64 0, .int .i64 0, .int .i64 0])))
  legs : ∀ i, i < k → w.ownsRow base 3 1 (L i) (S i).lgn (intList (S i).lg (S i).lgn)
  apart : ∀ i j, i < j → j < k → ∀ b, (L i).ownBlock = some b → (L j).ownBlock ≠ some b
theorem BksTo.below {w w' : World} {base g k N : Nat} {S : Nat → Book} {L : Nat → Value} (h : BksTo w base g k N S L) (hb : Below w.heap.size w w') : BksTo w' base g k N S L := ⟨own_below hb h.row, fun i hi => own_below hb (h.legs i hi), h.apart⟩
theorem BksTo.own {w : World} {base g N : Nat} {S : Nat → Book} {L : Nat → Value} (h : BksTo w base g N N S L) : OwnBks w base (.slice (some ⟨g, 0, none⟩) N N) N S L :=
  ⟨own_recs h.row (by decide) (fun i hi => upto_lt _ _ hi), h.legs, h.apart⟩
def set13 (w : World) (g t : Nat) (v0 v1 v2 v3 v4 v5 v6 v7 v8 v9 v10 v11 v12 : Value) : World :=
  (((((((((((((w.setCell ⟨g, t * 13, none⟩ v0).setCell ⟨g, t * 13 + 1, none⟩ v1).setCell ⟨g, t * 13 + 2, none⟩ v2).setCell ⟨g, t * 13 + 3, none⟩ v3).setCell ⟨g, t * 13 + 4, none⟩ v4).setCell ⟨g, t * 13 + 5, none⟩ v5).setCell ⟨g, t * 13 + 6, none⟩ v6).setCell ⟨g, t * 13 + 7, none⟩ v7).setCell ⟨g, t * 13 + 8, none⟩ v8).setCell ⟨g, t * 13 + 9, none⟩ v9).setCell ⟨g, t * 13 + 10, none⟩ v10).setCell ⟨g, t * 13 + 11, none⟩ v11).setCell ⟨g, t * 13 + 12, none⟩ v12)
theorem set13_kept (w : World) (g t : Nat) (v0 v1 v2 v3 v4 v5 v6 v7 v8 v9 v10 v11 v12 : Value) : Kept w (set13 w g t v0 v1 v2 v3 v4 v5 v6 v7 v8 v9 v10 v11 v12) (fun b => b = g) :=
  (((((((((((((Kept.refl w (fun b => b = g)).set (a := ⟨g, t * 13, none⟩) rfl v0).set (a := ⟨g, t * 13 + 1, none⟩) rfl v1).set (a := ⟨g, t * 13 + 2, none⟩) rfl v2).set (a := ⟨g, t * 13 + 3, none⟩) rfl v3).set (a := ⟨g, t * 13 + 4, none⟩) rfl v4).set (a := ⟨g, t * 13 + 5, none⟩) rfl v5).set (a := ⟨g, t * 13 + 6, none⟩) rfl v6).set (a := ⟨g, t * 13 + 7, none⟩) rfl v7).set (a := ⟨g, t * 13 + 8, none⟩) rfl v8).set (a := ⟨g, t * 13 + 9, none⟩) rfl v9).set (a := ⟨g, t * 13 + 10, none⟩) rfl v10).set (a := ⟨g, t * 13 + 11, none⟩) rfl v11).set (a := ⟨g, t * 13 + 12, none⟩) rfl v12
theorem set13_row {w : World} {base e g c N t : Nat} {C : Nat → List Value} (v0 v1 v2 v3 v4 v5 v6 v7 v8 v9 v10 v11 v12 : Value) (h : w.ownsRow base e 13 (.slice (some ⟨g, 0, none⟩) N c) N ((List.range (N * 13)).map (recCell 13 C))) (hl : (C t).length = 13) :
    (set13 w g t v0 v1 v2 v3 v4 v5 v6 v7 v8 v9 v10 v11 v12).ownsRow base e 13 (.slice (some ⟨g, 0, none⟩) N c) N ((List.range (N * 13)).map (recCell 13 (fun i => if i = t then [v0, v1, v2, v3, v4, v5, v6, v7, v8, v9, v10, v11, v12] else C i))) := by
  have h0 := own_rec h t 0 v0 hl (by decide)
  rw [Nat.add_zero] at h0
  have h1 := own_rec h0 t 1 v1 (by simp only [setC_at, List.length_set]; exact hl) (by decide)
  have h2 := own_rec h1 t 2 v2 (by simp only [setC_at, List.length_set]; exact hl) (by decide)
  have h3 := own_rec h2 t 3 v3 (by simp only [setC_at, List.length_set]; exact hl) (by decide)
  have h4 := own_rec h3 t 4 v4 (by simp only [setC_at, List.length_set]; exact hl) (by decide)
  have h5 := own_rec h4 t 5 v5 (by simp only [setC_at, List.length_set]; exact hl) (by decide)
  have h6 := own_rec h5 t 6 v6 (by simp only [setC_at, List.length_set]; exact hl) (by decide)
  have h7 := own_rec h6 t 7 v7 (by simp only [setC_at, List.length_set]; exact hl) (by decide)
  have h8 := own_rec h7 t 8 v8 (by simp only [setC_at, List.length_set]; exact hl) (by decide)
  have h9 := own_rec h8 t 9 v9 (by simp only [setC_at, List.length_set]; exact hl) (by decide)
  have h10 := own_rec h9 t 10 v10 (by simp only [setC_at, List.length_set]; exact hl) (by decide)
  have h11 := own_rec h10 t 11 v11 (by simp only [setC_at, List.length_set]; exact hl) (by decide)
  have h12 := own_rec h11 t 12 v12 (by simp only [setC_at, List.length_set]; exact hl) (by decide)
  refine own_recs h12 (by decide) (fun i hi => ?_)
  by_cases e : i = t
  · subst e
    rw [if_pos rfl]
    simp only [setC_at]
    obtain ⟨u0, u1, u2, u3, u4, u5, u6, u7, u8, u9, u10, u11, u12, hC⟩ : ∃ u0 u1 u2 u3 u4 u5 u6 u7 u8 u9 u10 u11 u12, C i = [u0, u1, u2, u3, u4, u5, u6, u7, u8, u9, u10, u11, u12] := list13 hl
    rw [hC]
    rfl
  · rw [if_neg e]
    simp only [setC_ne _ _ _ e]
theorem copyBooks_any (ao : Option Addr) (N c : Nat) (S : Nat → Book) (w : World) (hN : N ≤ 1048576) (hs : ∀ i, i < N → 0 < (S i).lgn ∧ (S i).lgn ≤ 1048576) (hz : BooksAt w ao N S) :
    Calls Tryz.prog 26 #[.slice ao N c, .func (.func 27) #[] #[]] w fun e w' => (∃ g L, e = .returned (.slice (some ⟨g, 0, none⟩) N N) ∧ OwnBks w' w.heap.size (.slice (some ⟨g, 0, none⟩) N N) N S L) ∧ Below w.heap.size w w' := by
  obtain ⟨i0, hi, hz0, hz1, hz2⟩ := info_parts Tryz.infoBooking
  have HS : Hid (∀ i, i < N → 0 < (S i).lgn ∧ (S i).lgn ≤ 1048576) := hs
  have HX : Hid (BooksAt w ao N S) := hz
  clear hs hz
  go_enter Tryz.func26, Tryz.ntmps26
  go_wp2_with (first | (at_make; refine wpList_make_full _ rfl _ _ 28 rfl w.heap.size 72 i0 _ 13 Tryz.underlying28 hi hz0 hz1 .i64 .i64 _ _ N rfl rfl rfl rfl (by rw [hz2]; omega) (by unfold maxLen; omega) (Nat.le_refl _) ?_; intro w1 hown1 hgrow1))
  go_loopw [6, 7, 13] (fun _ _ i wr => ∃ (k : Nat) (L : Nat → Value), k ≤ N ∧ i = .int .i64 k ∧ BksTo wr w.heap.size w.heap.size k N S L ∧ Below w.heap.size w wr) (fun _ _ i _ => N - (intOf i).toNat)
  case atStart => exact ⟨0, fun _ => .slice none 0 0, Nat.zero_le _, rfl, ⟨own_of_row ((row_of_own hown1).congr (fun j hj => (made_recs (z := #[.int .i64 0, .int .i64 0, .string ⟨#[]⟩, .slice none 0 0, .int .i64 0, .int .i64 0, .int .i64 0, .int .i64 0, .bool false, .int .i64 0, .int .i64 0, .int .i64 0, .int .i64 0]) (sz := 13) rfl N j hj).trans (by unfold recCell; rw [upto_ge _ _ (by omega)]))) (Nat.le_refl _) (by unfold maxLen; omega), fun i hi => by omega, fun i j _ hj => by omega⟩, (Below.refl _ _).grown hgrow1 (Nat.le_refl _) (by simp)⟩
  case round =>
    obtain ⟨k, L, hk, rfl, hrow, hbel⟩ := hrel
    clear hown1 hgrow1
    by_cases hlt : k < N
    · obtain ⟨E, hE, hI⟩ := HX.out
      obtain ⟨b, off, rfl, hc⟩ := hE k hlt
      obtain ⟨alg, lc, eC, hlg, slg⟩ := hI k hlt
      obtain ⟨sk1, sk2⟩ := HS.out k hlt
      obtain ⟨b2, o2, ea, _⟩ := hlg 0 sk1
      obtain ⟨ad, rfl⟩ : ∃ ad, alg = some ad := ⟨_, ea⟩
      clear ea
      have hlt' : b < w.heap.size := World.block_lt_of_cell? w _ (hc 0 (by decide))
      have i1 : (k : Int) < (N : Int) := by omega
      have HLG : Hid (IntsAt w (some ad) (S k).lgn (S k).lg) := hlg
      have c0 : wr.cell? ⟨b, off + k * 13, none⟩ = some (.int .i64 (S k).name) := (hbel.cell (p := ⟨b, off + k * 13, none⟩) hlt').trans (by have := hc 0 (by decide); rw [eC] at this; exact this)
      have c1 : wr.cell? ⟨b, off + k * 13 + 1, none⟩ = some (.int .i64 (S k).who) := (hbel.cell (p := ⟨b, off + k * 13 + 1, none⟩) hlt').trans (by have := hc 1 (by decide); rw [eC] at this; exact this)
      have c2 : wr.cell? ⟨b, off + k * 13 + 2, none⟩ = some (.string (S k).own) := (hbel.cell (p := ⟨b, off + k * 13 + 2, none⟩) hlt').trans (by have := hc 2 (by decide); rw [eC] at this; exact this)
      have c3 : wr.cell? ⟨b, off + k * 13 + 3, none⟩ = some (.slice (some ad) (S k).lgn lc) := (hbel.cell (p := ⟨b, off + k * 13 + 3, none⟩) hlt').trans (by have := hc 3 (by decide); rw [eC] at this; exact this)
      have c4 : wr.cell? ⟨b, off + k * 13 + 4, none⟩ = some (.int .i64 (S k).pe) := (hbel.cell (p := ⟨b, off + k * 13 + 4, none⟩) hlt').trans (by have := hc 4 (by decide); rw [eC] at this; exact this)
      have c5 : wr.cell? ⟨b, off + k * 13 + 5, none⟩ = some (.int .i64 (S k).len) := (hbel.cell (p := ⟨b, off + k * 13 + 5, none⟩) hlt').trans (by have := hc 5 (by decide); rw [eC] at this; exact this)
      have c6 : wr.cell? ⟨b, off + k * 13 + 6, none⟩ = some (.int .i64 (S k).hei) := (hbel.cell (p := ⟨b, off + k * 13 + 6, none⟩) hlt').trans (by have := hc 6 (by decide); rw [eC] at this; exact this)
      have c7 : wr.cell? ⟨b, off + k * 13 + 7, none⟩ = some (.int .i64 (S k).cl) := (hbel.cell (p := ⟨b, off + k * 13 + 7, none⟩) hlt').trans (by have := hc 7 (by decide); rw [eC] at this; exact this)
      have c8 : wr.cell? ⟨b, off + k * 13 + 8, none⟩ = some (.bool (S k).all) := (hbel.cell (p := ⟨b, off + k * 13 + 8, none⟩) hlt').trans (by have := hc 8 (by decide); rw [eC] at this; exact this)
      have c9 : wr.cell? ⟨b, off + k * 13 + 9, none⟩ = some (.int .i64 (S k).be) := (hbel.cell (p := ⟨b, off + k * 13 + 9, none⟩) hlt').trans (by have := hc 9 (by decide); rw [eC] at this; exact this)
      have c10 : wr.cell? ⟨b, off + k * 13 + 10, none⟩ = some (.int .i64 (S k).state) := (hbel.cell (p := ⟨b, off + k * 13 + 10, none⟩) hlt').trans (by have := hc 10 (by decide); rw [eC] at this; exact this)
      have c11 : wr.cell? ⟨b, off + k * 13 + 11, none⟩ = some (.int .i64 (S k).unt) := (hbel.cell (p := ⟨b, off + k * 13 + 11, none⟩) hlt').trans (by have := hc 11 (by decide); rw [eC] at this; exact this)
      have c12 : wr.cell? ⟨b, off + k * 13 + 12, none⟩ = some (.int .i64 (S k).price) := (hbel.cell (p := ⟨b, off + k * 13 + 12, none⟩) hlt').trans (by have := hc 12 (by decide); rw [eC] at this; exact this)
      have hbx := push hbel (.cells #[.int .i64 (S k).name, .int .i64 (S k).who, .string (S k).own, .slice (some ad) (S k).lgn lc, .int .i64 (S k).pe, .int .i64 (S k).len, .int .i64 (S k).hei, .int .i64 (S k).cl, .bool (S k).all, .int .i64 (S k).be, .int .i64 (S k).state, .int .i64 (S k).unt, .int .i64 (S k).price] 72)
      have hr1 := hrow.below (push (Below.refl _ wr) (.cells #[.int .i64 (S k).name, .int .i64 (S k).who, .string (S k).own, .slice (some ad) (S k).lgn lc, .int .i64 (S k).pe, .int .i64 (S k).len, .int .i64 (S k).hei, .int .i64 (S k).cl, .bool (S k).all, .int .i64 (S k).be, .int .i64 (S k).state, .int .i64 (S k).unt, .int .i64 (S k).price] 72))
      have hbox := heap_alloc_new wr (.cells #[.int .i64 (S k).name, .int .i64 (S k).who, .string (S k).own, .slice (some ad) (S k).lgn lc, .int .i64 (S k).pe, .int .i64 (S k).len, .int .i64 (S k).hei, .int .i64 (S k).cl, .bool (S k).all, .int .i64 (S k).be, .int .i64 (S k).state, .int .i64 (S k).unt, .int .i64 (S k).price] 72)
      clear hE hI hc eC hlg slg hrow
      go_wp2_with fail
      generalize wr.alloc (.cells #[.int .i64 (S k).name, .int .i64 (S k).who, .string (S k).own, .slice (some ad) (S k).lgn lc, .int .i64 (S k).pe, .int .i64 (S k).len, .int .i64 (S k).hei, .int .i64 (S k).cl, .bool (S k).all, .int .i64 (S k).be, .int .i64 (S k).state, .int .i64 (S k).unt, .int .i64 (S k).price] 72) = W at hbx hr1 hbox ⊢
      clear c0 c1 c2 c3 c4 c5 c6 c7 c8 c9 c10 c11 c12 hbox
      refine (copyBooking_any (S k) ad lc W sk2 (HLG.out.below hbx)).mono ?_
      rintro e w2 ⟨⟨a3, c3, rfl, hl⟩, hb2⟩
      have hr2 := hr1.below hb2
      have hkS := set13_kept w2 w.heap.size k (.int .i64 (S k).name) (.int .i64 (S k).who) (.string (S k).own) (.slice a3 (S k).lgn c3) (.int .i64 (S k).pe) (.int .i64 (S k).len) (.int .i64 (S k).hei) (.int .i64 (S k).cl) (.bool (S k).all) (.int .i64 (S k).be) (.int .i64 (S k).state) (.int .i64 (S k).unt) (.int .i64 (S k).price)
      have HRS : Hid _ := set13_row (t := k) (.int .i64 (S k).name) (.int .i64 (S k).who) (.string (S k).own) (.slice a3 (S k).lgn c3) (.int .i64 (S k).pe) (.int .i64 (S k).len) (.int .i64 (S k).hei) (.int .i64 (S k).cl) (.bool (S k).all) (.int .i64 (S k).be) (.int .i64 (S k).state) (.int .i64 (S k).unt) (.int .i64 (S k).price) hr2.row (by rw [upto_ge _ _ (by omega)]; rfl)
      have hbS : Below w.heap.size w (set13 w2 w.heap.size k (.int .i64 (S k).name) (.int .i64 (S k).who) (.string (S k).own) (.slice a3 (S k).lgn c3) (.int .i64 (S k).pe) (.int .i64 (S k).len) (.int .i64 (S k).hei) (.int .i64 (S k).cl) (.bool (S k).all) (.int .i64 (S k).be) (.int .i64 (S k).state) (.int .i64 (S k).unt) (.int .i64 (S k).price)) := Kept.below (after hbx hb2) (after hbx hb2).size hkS (fun b e => by have e : b = w.heap.size := e; omega)
      have HBT : Hid (BksTo (set13 w2 w.heap.size k (.int .i64 (S k).name) (.int .i64 (S k).who) (.string (S k).own) (.slice a3 (S k).lgn c3) (.int .i64 (S k).pe) (.int .i64 (S k).len) (.int .i64 (S k).hei) (.int .i64 (S k).cl) (.bool (S k).all) (.int .i64 (S k).be) (.int .i64 (S k).state) (.int .i64 (S k).unt) (.int .i64 (S k).price)) w.heap.size w.heap.size (k + 1) N S (atV L k (.slice a3 (S k).lgn c3))) := by
        refine ⟨own_recs HRS.out (by decide) (fun i hi => ?_), fun i hi => ?_, fun i j hij hj => ?_⟩
        · by_cases e : i = k
          · subst e; rw [if_pos rfl, upto_lt _ _ (by omega)]; unfold bkC; rw [atV_at]
          · rw [if_neg e]
            by_cases h : i < k
            · rw [upto_lt _ _ h, upto_lt _ _ (by omega)]; unfold bkC; rw [atV_ne _ _ _ _ e]
            · rw [upto_ge _ _ h, upto_ge _ _ (by omega)]
        · by_cases e : i = k
          · subst e; rw [atV_at]; exact hkS.own (own_base hl hbx.size) (fun g e1 e2 => own_apart hr2.row (own_base hl hbx.size) (by decide) g (by rw [show g = w.heap.size from e2]; rfl) e1)
          · rw [atV_ne _ _ _ _ e]; exact hkS.own (hr2.legs i (by omega)) (fun g e1 e2 => own_apart hr2.row (hr2.legs i (by omega)) (by decide) g (by rw [show g = w.heap.size from e2]; rfl) e1)
        · by_cases e : j = k
          · subst e
            rw [atV_at, atV_ne _ _ _ _ (by omega)]
            intro b h1 h3
            have a := ((hr1.legs i hij).lt b h1).2
            have c := (World.ownsRow.lt hl b h3).1
            omega
          · rw [atV_ne _ _ _ _ e, atV_ne _ _ _ _ (by omega)]
            exact hr1.apart i j hij (by omega)
      have HBS : Hid (Below w.heap.size w (set13 w2 w.heap.size k (.int .i64 (S k).name) (.int .i64 (S k).who) (.string (S k).own) (.slice a3 (S k).lgn c3) (.int .i64 (S k).pe) (.int .i64 (S k).len) (.int .i64 (S k).hei) (.int .i64 (S k).cl) (.bool (S k).all) (.int .i64 (S k).be) (.int .i64 (S k).state) (.int .i64 (S k).unt) (.int .i64 (S k).price))) := hbS
      obtain ⟨u0, o0⟩ : ∃ v, w2.cell? ⟨w.heap.size, k * 13 + 0, none⟩ = some v := ⟨_, own_rcell hr2.row hlt (by decide)⟩
      have f0 := hr2.row.frozenAt (k * 13)
      obtain ⟨u1, o1⟩ : ∃ v, w2.cell? ⟨w.heap.size, k * 13 + 1, none⟩ = some v := ⟨_, own_rcell hr2.row hlt (by decide)⟩
      have f1 := hr2.row.frozenAt (k * 13 + 1)
      obtain ⟨u2, o2⟩ : ∃ v, w2.cell? ⟨w.heap.size, k * 13 + 2, none⟩ = some v := ⟨_, own_rcell hr2.row hlt (by decide)⟩
      have f2 := hr2.row.frozenAt (k * 13 + 2)
      obtain ⟨u3, o3⟩ : ∃ v, w2.cell? ⟨w.heap.size, k * 13 + 3, none⟩ = some v := ⟨_, own_rcell hr2.row hlt (by decide)⟩
      have f3 := hr2.row.frozenAt (k * 13 + 3)
      obtain ⟨u4, o4⟩ : ∃ v, w2.cell? ⟨w.heap.size, k * 13 + 4, none⟩ = some v := ⟨_, own_rcell hr2.row hlt (by decide)⟩
      have f4 := hr2.row.frozenAt (k * 13 + 4)
      obtain ⟨u5, o5⟩ : ∃ v, w2.cell? ⟨w.heap.size, k * 13 + 5, none⟩ = some v := ⟨_, own_rcell hr2.row hlt (by decide)⟩
      have f5 := hr2.row.frozenAt (k * 13 + 5)
      obtain ⟨u6, o6⟩ : ∃ v, w2.cell? ⟨w.heap.size, k * 13 + 6, none⟩ = some v := ⟨_, own_rcell hr2.row hlt (by decide)⟩
      have f6 := hr2.row.frozenAt (k * 13 + 6)
      obtain ⟨u7, o7⟩ : ∃ v, w2.cell? ⟨w.heap.size, k * 13 + 7, none⟩ = some v := ⟨_, own_rcell hr2.row hlt (by decide)⟩
      have f7 := hr2.row.frozenAt (k * 13 + 7)
      obtain ⟨u8, o8⟩ : ∃ v, w2.cell? ⟨w.heap.size, k * 13 + 8, none⟩ = some v := ⟨_, own_rcell hr2.row hlt (by decide)⟩
      have f8 := hr2.row.frozenAt (k * 13 + 8)
      obtain ⟨u9, o9⟩ : ∃ v, w2.cell? ⟨w.heap.size, k * 13 + 9, none⟩ = some v := ⟨_, own_rcell hr2.row hlt (by decide)⟩
      have f9 := hr2.row.frozenAt (k * 13 + 9)
      obtain ⟨u10, o10⟩ : ∃ v, w2.cell? ⟨w.heap.size, k * 13 + 10, none⟩ = some v := ⟨_, own_rcell hr2.row hlt (by decide)⟩
      have f10 := hr2.row.frozenAt (k * 13 + 10)
      obtain ⟨u11, o11⟩ : ∃ v, w2.cell? ⟨w.heap.size, k * 13 + 11, none⟩ = some v := ⟨_, own_rcell hr2.row hlt (by decide)⟩
      have f11 := hr2.row.frozenAt (k * 13 + 11)
      obtain ⟨u12, o12⟩ : ∃ v, w2.cell? ⟨w.heap.size, k * 13 + 12, none⟩ = some v := ⟨_, own_rcell hr2.row hlt (by decide)⟩
      have f12 := hr2.row.frozenAt (k * 13 + 12)
      rw [Nat.add_zero] at o0
      clear hr1 hr2 hl hbx hb2 hkS HRS hbS hbel HLG
      go_wp2
      go_roundw
      case rel =>
        have key := HBT.out
        have key2 := HBS.out
        unfold set13 at key key2
        exact ⟨k + 1, _, by omega, by go_num, key, key2⟩
      case measure => simp [intOf]; omega
    · obtain rfl : k = N := by omega
      have HO : Hid _ := hrow.own
      go_wp2
      go_ret
      exact ⟨⟨_, L, rfl, HO.out⟩, hbel⟩
end Go.Proofs.YtlelckbeoclhbaaGreat

namespace Go.Proofs.YtlelckbeoclhbaaGreat
open Go.RowKit
theorem implOffice_any (cs : List Value) (x : Off) (w : World) (hs : Off.Short x 1048576) (h : Off.Is w cs x) :
    Calls Tryz.prog 25 #[.agg cs.toArray] w fun e w' => e = .returned (.bool (decide (OffOk x))) ∧ Below w.heap.size w w' := by
  obtain ⟨asa, csa, ald, cld, abk, cbk, rfl, h1, s1, h2, s2, h3, s3⟩ := h
  exact (implOff_raw x asa ald abk csa cld cbk w hs h1 h2 h3 s3.1).mono fun _ _ ⟨a, b⟩ => ⟨says_decide a, b⟩
end Go.Proofs.YtlelckbeoclhbaaGreat

namespace Go.Proofs.YtlelckbeoclhbaaGreat
open Go.RowKit
theorem setV {n : Nat} {w w' : World} (h : Below n w w') {g o : Nat} (hg : n ≤ g) (v : Value) : Below n w (w'.setCell ⟨g, o, none⟩ v) := h.setCell (p := ⟨g, o, none⟩) hg v
theorem rec3W {w : World} {g t : Nat} {u0 u1 u2 : Value} (h : w.heap[g]? = some (.cells #[u0, u1, u2] t (0, 0))) (v0 v1 v2 : Value) :
    (((w.setCell ⟨g, 0, none⟩ v0).setCell ⟨g, 1, none⟩ v1).setCell ⟨g, 2, none⟩ v2).heap[g]? = some (.cells #[v0, v1, v2] t (0, 0)) := by
  have a : (w.setCell ⟨g, 0, none⟩ v0).heap[g]? = some (.cells #[v0, u1, u2] t (0, 0)) := by simpa using blk_set h 0 v0
  have b : ((w.setCell ⟨g, 0, none⟩ v0).setCell ⟨g, 1, none⟩ v1).heap[g]? = some (.cells #[v0, v1, u2] t (0, 0)) := by simpa using blk_set a 1 v1
  simpa using blk_set b 2 v2
theorem rowln_set {w : World} {g t : Nat} {u0 u1 u2 u3 u4 : Value} (h : w.heap[g]? = some (.cells #[u0, u1, u2, u3, u4] t (0, 0))) (v : Value) : (w.setCell ⟨g, 3, none⟩ v).heap[g]? = some (.cells #[u0, u1, u2, v, u4] t (0, 0)) := by simpa using blk_set h 3 v
theorem rowcab_set {w : World} {g t : Nat} {u0 u1 u2 u3 u4 : Value} (h : w.heap[g]? = some (.cells #[u0, u1, u2, u3, u4] t (0, 0))) (v : Value) : (w.setCell ⟨g, 4, none⟩ v).heap[g]? = some (.cells #[u0, u1, u2, u3, v] t (0, 0)) := by simpa using blk_set h 4 v
theorem specRows_raw (x : Off) (asa ald abk : Option Addr) (csa cld cbk k : Nat) (z : Int) (w : World) (hs : Off.Short x 1048576) (hsa : SailsAt w asa x.san x.sa) (hld : LoadsAt w ald x.ldn x.ld) (hbk : BooksAt w abk x.bkn x.bk) (hcb : x.bkn ≤ 30) (hkd : findIx x.sa z x.san = k) (hlt : k < x.san) (hm1 : x.ldn = x.san) :
    Calls Tryz.prog 18 #[.agg #[.slice asa x.san csa, .slice ald x.ldn cld, .slice abk x.bkn cbk], .int .i64 z] w fun e w' => (∃ v, e = .returned v ∧ w'.ownsRow w.heap.size 116 5 v (rowsL (x.ld k) x.bk z x.bkn).length (rowList (nthR (rowsL (x.ld k) x.bk z x.bkn)) (rowsL (x.ld k) x.bk z x.bkn).length)) ∧ Below w.heap.size w w' := by
  obtain ⟨j0, ji, jz0, jz1, jz2⟩ := info_parts Tryz.infoRow
  have HSA : Hid (SailsAt w asa x.san x.sa) := hsa
  have HBK : Hid (BooksAt w abk x.bkn x.bk) := hbk
  have HSH : Hid (Off.Short x 1048576) := hs
  have n1 : x.san ≤ 1048576 := hs.1.1
  have HKD : Hid (findIx x.sa z x.san = k) := hkd
  obtain ⟨C, hC, hI⟩ := hld
  obtain ⟨lb, lo, rfl, hc⟩ := hC k (by omega)
  obtain ⟨l, hld⟩ : ∃ l, l = x.ld k := ⟨_, rfl⟩
  obtain ⟨ast, cst, aro, cro, ase, cse, eC, hst, sst, hro, sro, hse, sse⟩ := hI k (by omega)
  rw [← hld] at eC hst sst hro sro hse sse
  have hsh := hs.2.1.2 k (by omega)
  rw [← hld] at hsh
  have n2 : l.stn ≤ 1048576 := hsh.1
  have n3 : l.ron ≤ 1048576 := hsh.2.1
  rw [← hld]
  have HST : Hid (StaysAt w ast l.stn l.st) := hst
  have HRO : Hid (RoomsAt w aro l.ron l.ro) := hro
  have llb : lb < w.heap.size := World.block_lt_of_cell? w _ (hc 0 (by decide))
  have hk0 : (0 : Int) ≤ (k : Int) := by omega
  have hk1 : (k : Int) < (x.ldn : Int) := by omega
  have HLD : Hid (w.cell? ⟨lb, lo + k * 3, none⟩ = some (.slice ast l.stn cst) ∧ w.cell? ⟨lb, lo + k * 3 + 1, none⟩ = some (.slice aro l.ron cro) ∧ w.cell? ⟨lb, lo + k * 3 + 2, none⟩ = some (.slice ase l.sen cse)) :=
    ⟨by have := hc 0 (by decide); rw [eC] at this; exact this, by have := hc 1 (by decide); rw [eC] at this; exact this, by have := hc 2 (by decide); rw [eC] at this; exact this⟩
  have HC3 : Hid (∀ w', Below w.heap.size w w' → Calls Tryz.prog 57 #[.slice asa x.san csa, .int .i64 z] w' fun e w2 => e = .returned (.int .i64 k) ∧ Below w'.heap.size w' w2) := fun w' h =>
    (l3At_any asa x.san csa x.sa z w' n1 (HSA.out.below h)).mono fun e w2 ⟨a, b⟩ => ⟨by
      rw [HKD.out] at a
      rcases a with ⟨_, rfl⟩ | ⟨h, _⟩
      · rfl
      · omega, b⟩
  have hb0 : Below w.heap.size w (w.alloc (.cells #[.slice asa x.san csa, .slice (some ⟨lb, lo, none⟩) x.ldn cld, .slice abk x.bkn cbk] 39)) := push (Below.refl _ _) _
  have bO := heap_alloc_new w (.cells #[.slice asa x.san csa, .slice (some ⟨lb, lo, none⟩) x.ldn cld, .slice abk x.bkn cbk] 39)
  clear hsa hbk hs hkd hC hI hc eC hst sst hro sro hse sse hsh hld hm1
  go_enter Tryz.func18, Tryz.ntmps18
  go_upto_region 1 with fail
  generalize w.alloc (.cells #[.slice asa x.san csa, .slice (some ⟨lb, lo, none⟩) x.ldn cld, .slice abk x.bkn cbk] 39) = V at hb0 bO ⊢
  have hVs := hb0.size
  have BW : Hid (∀ w', Below V.heap.size V w' → Below w.heap.size w w') := fun w' h => after hb0 h
  have bOl := blk_lt bO
  have KS : Hid (∀ w', Below V.heap.size V w' → (w'.cell? ⟨w.heap.size, 0, none⟩ = some (.slice asa x.san csa) ∧ w'.cell? ⟨w.heap.size, 1, none⟩ = some (.slice (some ⟨lb, lo, none⟩) x.ldn cld) ∧ w'.cell? ⟨lb, lo + k * 3, none⟩ = some (.slice ast l.stn cst) ∧ w'.cell? ⟨lb, lo + k * 3 + 1, none⟩ = some (.slice aro l.ron cro) ∧ w'.cell? ⟨lb, lo + k * 3 + 2, none⟩ = some (.slice ase l.sen cse))) := fun w' h => by
    have g1 := blk_below bO h
    have g2 := after hb0 h
    exact ⟨blk_cell g1 0 _ rfl, blk_cell g1 1 _ rfl, (g2.cell (p := ⟨lb, lo + k * 3, none⟩) llb).trans HLD.out.1, (g2.cell (p := ⟨lb, lo + k * 3 + 1, none⟩) llb).trans HLD.out.2.1, (g2.cell (p := ⟨lb, lo + k * 3 + 2, none⟩) llb).trans HLD.out.2.2⟩
  go_cut [5] (fun s5 wc => ∃ B, s5 = .pointer (some ⟨B, 0, none⟩) ∧ wc.heap[B]? = some (.cells #[.slice ast l.stn cst, .slice aro l.ron cro, .slice ase l.sen cse] 62 (0, 0)) ∧ Below V.heap.size V wc)
  case first =>
    go_region_held3 (fun w' => w'.cell? ⟨w.heap.size, 0, none⟩ = some (.slice asa x.san csa) ∧ w'.cell? ⟨w.heap.size, 1, none⟩ = some (.slice (some ⟨lb, lo, none⟩) x.ldn cld) ∧ w'.cell? ⟨lb, lo + k * 3, none⟩ = some (.slice ast l.stn cst) ∧ w'.cell? ⟨lb, lo + k * 3 + 1, none⟩ = some (.slice aro l.ron cro) ∧ w'.cell? ⟨lb, lo + k * 3 + 2, none⟩ = some (.slice ase l.sen cse))
      ((refine KS.out _ ?_; exact (by repeat (first | exact Below.refl _ _ | refine Below.drew ?_ | refine push ?_ _ | refine setV ?_ (by omega) _ | refine after ?_ hb4))))
      (first | (go_at_call 57; refine Calls.mono (HC3.out _ (BW.out _ (by repeat (first | exact Below.refl _ _ | refine Below.drew ?_ | refine push ?_ _ | refine setV ?_ (by omega) _ | refine after ?_ hb4)))) ?_; rintro e w4 ⟨rfl, hb4⟩; have s4 : V.heap.size ≤ w4.heap.size := (by have := hb4.size; first | omega | (simp at this; omega)); (first | (have hby : w4.heap[V.heap.size]? = some (.cells #[.slice none 0 0, .slice none 0 0, .slice none 0 0] 62 (0, 0)) := blk_below (heap_alloc_new V.drew (.cells #[.slice none 0 0, .slice none 0 0, .slice none 0 0] 62)) hb4; have y0 := blk_cell hby 0 _ rfl; have y1 := blk_cell hby 1 _ rfl; have y2 := blk_cell hby 2 _ rfl; have f0 := blk_free hby 0; have f1 := blk_free hby 1; have f2 := blk_free hby 2) | skip)))
    all_goals
      go_wp2
      go_meet
      first | exact ⟨_, rfl, heap_alloc_new w4 _, (by repeat (first | exact Below.refl _ _ | refine Below.drew ?_ | refine push ?_ _ | refine setV ?_ (by omega) _ | refine after ?_ hb4))⟩ | exact ⟨_, rfl, rec3W hby _ _ _, (by repeat (first | exact Below.refl _ _ | refine Below.drew ?_ | refine push ?_ _ | refine setV ?_ (by omega) _ | refine after ?_ hb4))⟩
  case rest =>
  obtain ⟨B, rfl, bL, hbc⟩ := hcut
  have bO1 := blk_below bO hbc
  have hb1 := after hb0 hbc
  clear bO hb0 hbc KS BW HC3 HLD bOl hVs
  have z2 := blk_cell bO1 2 _ rfl
  go_wp2
  clear z2
  go_loopw [6, 8, 9, 11, 13, 25] (fun v _ _ _ _ q wr => ∃ (i r : Nat), i ≤ x.bkn ∧ q = .int .i64 i ∧ r = (rowsL l x.bk z i).length ∧ wr.ownsRow wc.heap.size 116 5 v r (rowList (nthR (rowsL l x.bk z i)) r) ∧ Below wc.heap.size wc wr) (fun _ _ _ _ _ q _ => x.bkn - (intOf q).toNat)
  case atStart => exact ⟨0, 0, Nat.zero_le _, rfl, rfl, ⟨rfl, .inl ⟨rfl, rfl⟩⟩, Below.refl _ _⟩
  case round =>
    obtain ⟨i, r, hi, rfl, hrd, hown, hbel⟩ := hrel
    have HRD : Hid (r = (rowsL l x.bk z i).length) := hrd
    have hr30 : r ≤ 30 := by have := rowsL_le l x.bk z i; omega
    clear hrd
    have hbw := after hb1 hbel
    by_cases hlt2 : i < x.bkn
    · obtain ⟨D, hD, hJ⟩ := HBK.out
      obtain ⟨bb, bo, rfl, hc⟩ := hD i hlt2
      obtain ⟨b, hbd⟩ : ∃ b, b = x.bk i := ⟨_, rfl⟩
      obtain ⟨alg, clg, eC, hlg, slg⟩ := hJ i hlt2
      rw [← hbd] at eC hlg slg
      have HBB : Hid (b = x.bk i) := hbd
      have HBS : Hid (Book.Short b 1048576) := by rw [hbd]; exact HSH.out.2.2.2 i hlt2
      have HLG : Hid (IntsAt w alg b.lgn b.lg) := hlg
      have lbb : bb < w.heap.size := World.block_lt_of_cell? w _ (hc 0 (by decide))
      have c0 : wr.cell? ⟨bb, bo + i * 13, none⟩ = some (.int .i64 b.name) := (hbw.cell (p := ⟨bb, bo + i * 13, none⟩) lbb).trans (by have := hc 0 (by decide); rw [eC] at this; exact this)
      have c1 : wr.cell? ⟨bb, bo + i * 13 + 1, none⟩ = some (.int .i64 b.who) := (hbw.cell (p := ⟨bb, bo + i * 13 + 1, none⟩) lbb).trans (by have := hc 1 (by decide); rw [eC] at this; exact this)
      have c2 : wr.cell? ⟨bb, bo + i * 13 + 2, none⟩ = some (.string b.own) := (hbw.cell (p := ⟨bb, bo + i * 13 + 2, none⟩) lbb).trans (by have := hc 2 (by decide); rw [eC] at this; exact this)
      have c3 : wr.cell? ⟨bb, bo + i * 13 + 3, none⟩ = some (.slice alg b.lgn clg) := (hbw.cell (p := ⟨bb, bo + i * 13 + 3, none⟩) lbb).trans (by have := hc 3 (by decide); rw [eC] at this; exact this)
      have c4 : wr.cell? ⟨bb, bo + i * 13 + 4, none⟩ = some (.int .i64 b.pe) := (hbw.cell (p := ⟨bb, bo + i * 13 + 4, none⟩) lbb).trans (by have := hc 4 (by decide); rw [eC] at this; exact this)
      have c5 : wr.cell? ⟨bb, bo + i * 13 + 5, none⟩ = some (.int .i64 b.len) := (hbw.cell (p := ⟨bb, bo + i * 13 + 5, none⟩) lbb).trans (by have := hc 5 (by decide); rw [eC] at this; exact this)
      have c6 : wr.cell? ⟨bb, bo + i * 13 + 6, none⟩ = some (.int .i64 b.hei) := (hbw.cell (p := ⟨bb, bo + i * 13 + 6, none⟩) lbb).trans (by have := hc 6 (by decide); rw [eC] at this; exact this)
      have c7 : wr.cell? ⟨bb, bo + i * 13 + 7, none⟩ = some (.int .i64 b.cl) := (hbw.cell (p := ⟨bb, bo + i * 13 + 7, none⟩) lbb).trans (by have := hc 7 (by decide); rw [eC] at this; exact this)
      have c8 : wr.cell? ⟨bb, bo + i * 13 + 8, none⟩ = some (.bool b.all) := (hbw.cell (p := ⟨bb, bo + i * 13 + 8, none⟩) lbb).trans (by have := hc 8 (by decide); rw [eC] at this; exact this)
      have c9 : wr.cell? ⟨bb, bo + i * 13 + 9, none⟩ = some (.int .i64 b.be) := (hbw.cell (p := ⟨bb, bo + i * 13 + 9, none⟩) lbb).trans (by have := hc 9 (by decide); rw [eC] at this; exact this)
      have c10 : wr.cell? ⟨bb, bo + i * 13 + 10, none⟩ = some (.int .i64 b.state) := (hbw.cell (p := ⟨bb, bo + i * 13 + 10, none⟩) lbb).trans (by have := hc 10 (by decide); rw [eC] at this; exact this)
      have c11 : wr.cell? ⟨bb, bo + i * 13 + 11, none⟩ = some (.int .i64 b.unt) := (hbw.cell (p := ⟨bb, bo + i * 13 + 11, none⟩) lbb).trans (by have := hc 11 (by decide); rw [eC] at this; exact this)
      have c12 : wr.cell? ⟨bb, bo + i * 13 + 12, none⟩ = some (.int .i64 b.price) := (hbw.cell (p := ⟨bb, bo + i * 13 + 12, none⟩) lbb).trans (by have := hc 12 (by decide); rw [eC] at this; exact this)
      clear hD hJ hc eC hbd hlg slg
      go_wp2_with fail
      have bB := heap_alloc_new wr (.cells #[.int .i64 b.name, .int .i64 b.who, .string b.own, .slice alg b.lgn clg, .int .i64 b.pe, .int .i64 b.len, .int .i64 b.hei, .int .i64 b.cl, .bool b.all, .int .i64 b.be, .int .i64 b.state, .int .i64 b.unt, .int .i64 b.price] 72)
      have hbq : Below wc.heap.size wc (wr.alloc (.cells #[.int .i64 b.name, .int .i64 b.who, .string b.own, .slice alg b.lgn clg, .int .i64 b.pe, .int .i64 b.len, .int .i64 b.hei, .int .i64 b.cl, .bool b.all, .int .i64 b.be, .int .i64 b.state, .int .i64 b.unt, .int .i64 b.price] 72)) := push hbel _
      have hown1 := hown.alloc (.cells #[.int .i64 b.name, .int .i64 b.who, .string b.own, .slice alg b.lgn clg, .int .i64 b.pe, .int .i64 b.len, .int .i64 b.hei, .int .i64 b.cl, .bool b.all, .int .i64 b.be, .int .i64 b.state, .int .i64 b.unt, .int .i64 b.price] 72)
      generalize wr.alloc (.cells #[.int .i64 b.name, .int .i64 b.who, .string b.own, .slice alg b.lgn clg, .int .i64 b.pe, .int .i64 b.len, .int .i64 b.hei, .int .i64 b.cl, .bool b.all, .int .i64 b.be, .int .i64 b.state, .int .i64 b.unt, .int .i64 b.price] 72) = Y at bB hbq hown1 ⊢
      generalize wr.heap.size = bbx at bB ⊢
      clear c0 c1 c2 c3 c4 c5 c6 c7 c8 c9 c10 c11 c12 hbel hbw hown
      refine (l7Live_any b alg clg _).mono ?_
      rintro e Y1 ⟨rfl, hby⟩
      have bB1 := blk_below bB hby
      have hbq1 := after hbq hby
      have hown2 := own_below hby hown1
      clear bB hbq hby hown1
      obtain ⟨t1, ht1⟩ : ∃ t, t = decide (Live b) := ⟨_, rfl⟩
      rw [← ht1]
      have HT1 : Hid (t1 = true ↔ Live b) := by show t1 = true ↔ Live b; rw [ht1, decide_eq_true_eq]
      clear ht1
      cases t1 with
      | false =>
        have HN : Hid (¬ OnZ (x.bk i) z) := fun h => by rw [← HBB.out] at h; have := HT1.out.2 h.1; cases this
        go_wp2
        go_roundw
        case rel => exact ⟨i + 1, r, by omega, by go_num, by rw [rowsL_no HN.out]; exact HRD.out, by rw [rowsL_no HN.out]; exact hown2, hbq1⟩
        case measure => simp [intOf]; omega
      | true =>
        have HLV : Hid (Live b) := HT1.out.1 rfl
        clear HT1
        have y3 := blk_cell bB1 3 _ rfl
        go_wp2_with fail
        refine (l1Has_any alg b.lgn clg b.lg z _ HBS.out.2 (HLG.out.below (after hb1 hbq1))).mono ?_
        rintro e Y2 ⟨⟨t2, rfl, ht2⟩, hw2⟩
        have hw2 := hw2.symm
        subst hw2
        have HT2 : Hid (t2 = true ↔ HasLeg b z) := ht2
        clear ht2 y3
        cases t2 with
        | false =>
          have HN : Hid (¬ OnZ (x.bk i) z) := fun h => by rw [← HBB.out] at h; have := HT2.out.2 h.2; cases this
          go_wp2
          go_roundw
          case rel => exact ⟨i + 1, r, by omega, by go_num, by rw [rowsL_no HN.out]; exact HRD.out, by rw [rowsL_no HN.out]; exact hown2, hbq1⟩
          case measure => simp [intOf]; omega
        | true =>
          have HON : Hid (OnZ (x.bk i) z) := by show OnZ (x.bk i) z; rw [← HBB.out]; exact ⟨HLV.out, HT2.out.1 rfl⟩
          clear HT2 HLV
          have y0 := blk_cell bB1 0 _ rfl
          have y2 := blk_cell bB1 2 _ rfl
          have y4 := blk_cell bB1 4 _ rfl
          have l0 : ∀ o, (Y1.alloc o).cell? ⟨B, 0, none⟩ = some (.slice ast l.stn cst) := fun o => blk_cell (blk_alloc (blk_below bL hbq1) o) 0 _ rfl
          go_wp2
          have bR := heap_alloc_new Y1 (.cells #[.int .i64 b.name, .string b.own, .int .i64 b.pe, .int .i64 (-1), .int .i64 (-1)] 116)
          have hbr : Below wc.heap.size wc (Y1.alloc (.cells #[.int .i64 b.name, .string b.own, .int .i64 b.pe, .int .i64 (-1), .int .i64 (-1)] 116)) := push hbq1 _
          have hown3 := hown2.alloc (.cells #[.int .i64 b.name, .string b.own, .int .i64 b.pe, .int .i64 (-1), .int .i64 (-1)] 116)
          have bB2 := blk_alloc bB1 (.cells #[.int .i64 b.name, .string b.own, .int .i64 b.pe, .int .i64 (-1), .int .i64 (-1)] 116)
          have hvb := fun g hg => And.right (World.ownsRow.lt hown2 g hg)
          have hY1 : wc.heap.size ≤ Y1.heap.size := hbq1.size
          have hbbx : bbx < Y1.heap.size := blk_lt bB1
          generalize Y1.alloc (.cells #[.int .i64 b.name, .string b.own, .int .i64 b.pe, .int .i64 (-1), .int .i64 (-1)] 116) = R0 at bR hbr hown3 bB2 ⊢
          generalize Y1.heap.size = rb at bR hY1 hbbx hvb ⊢
          clear y0 y2 y4 l0 hbq1 bB1 hown2
          have HVB : Hid _ := hvb
          clear hvb
          have hBw : B < wc.heap.size := blk_lt bL
          go_loopw [11, 50] (fun _ q wr => ∃ j : Nat, j ≤ l.stn ∧ q = .int .i64 j ∧ wr.heap[rb]? = some (.cells #[.int .i64 b.name, .string b.own, .int .i64 b.pe, .int .i64 (lastLn l.st b.who j), .int .i64 (-1)] 116 (0, 0)) ∧ Kept R0 wr (fun b => b = rb)) (fun _ q _ => l.stn - (intOf q).toNat)
          case atStart => exact ⟨0, Nat.zero_le _, rfl, bR, Kept.refl _ _⟩
          case round =>
            obtain ⟨j, hj, rfl, hR, hkp⟩ := hrel
            have hbx : Below wc.heap.size wc wr := Kept.below hbr hbr.size hkp (fun g e => by have e : g = rb := e; omega)
            have hbw := after hb1 hbx
            have bB3 := hkp.blk bB2 (by omega)
            by_cases hjl : j < l.stn
            · obtain ⟨sb, so, rfl, h0, h1, h2, h3⟩ := HST.out j hjl
              have lsb := World.block_lt_of_cell? w _ h0
              have c0 : wr.cell? ⟨sb, so + j * 4, none⟩ = some (.int .i64 (l.st j).who) := (hbw.cell (p := ⟨sb, so + j * 4, none⟩) lsb).trans h0
              have c1 : wr.cell? ⟨sb, so + j * 4 + 1, none⟩ = some (.int .i64 (l.st j).ln) := (hbw.cell (p := ⟨sb, so + j * 4 + 1, none⟩) lsb).trans h1
              have c2 : wr.cell? ⟨sb, so + j * 4 + 2, none⟩ = some (.int .i64 (l.st j).len) := (hbw.cell (p := ⟨sb, so + j * 4 + 2, none⟩) lsb).trans h2
              have c3 : wr.cell? ⟨sb, so + j * 4 + 3, none⟩ = some (.int .i64 (l.st j).hei) := (hbw.cell (p := ⟨sb, so + j * 4 + 3, none⟩) lsb).trans h3
              clear h0 h1 h2 h3
              have y1 : ∀ o, (wr.alloc o).cell? ⟨bbx, 1, none⟩ = some (.int .i64 b.who) := fun o => blk_cell (blk_alloc bB3 o) 1 _ rfl
              have r3 : ∀ o, (wr.alloc o).cell? ⟨rb, 3, none⟩ = some (.int .i64 (lastLn l.st b.who j)) := fun o => blk_cell (blk_alloc hR o) 3 _ rfl
              have g3 : ∀ o, (wr.alloc o).frozen? ⟨rb, 3, none⟩ = false := fun o => blk_free (blk_alloc hR o) 3
              have i1 : (0 : Int) ≤ (j : Int) := by omega
              have i2 : (j : Int) < (l.stn : Int) := by omega
              by_cases he : (l.st j).who = b.who
              · have e1 : ((l.st j).who == b.who) = true := by simpa using he
                have HE : Hid ((l.st j).who = b.who) := he
                clear he
                go_wp2
                go_roundw
                case rel => exact ⟨j + 1, by omega, by go_num, by rw [show lastLn l.st b.who (j + 1) = (l.st j).ln by rw [lastLn, if_pos HE.out]]; exact rowln_set (blk_alloc hR _) _, (hkp.trans (Kept.of_below (push (Below.refl _ _) _))).set (a := ⟨rb, 3, none⟩) rfl _⟩
                case measure => simp [intOf]; omega
              · have e1 : ((l.st j).who == b.who) = false := by simpa using he
                have HE : Hid (¬ (l.st j).who = b.who) := he
                clear he
                go_wp2
                go_roundw
                case rel => exact ⟨j + 1, by omega, by go_num, by rw [show lastLn l.st b.who (j + 1) = lastLn l.st b.who j by rw [lastLn, if_neg HE.out]]; exact blk_alloc hR _, hkp.trans (Kept.of_below (push (Below.refl _ _) _))⟩
                case measure => simp [intOf]; omega
            · obtain rfl : j = l.stn := by omega
              have l1 := blk_cell (blk_below bL hbx) 1 _ rfl
              clear hbx hbw bB3 bR hj hjl
              go_wp2
              clear l1
              have bR := hR
              have hkp0 := hkp
              clear hR hkp
              go_loopw [13, 66] (fun _ q wr => ∃ j : Nat, j ≤ l.ron ∧ q = .int .i64 j ∧ wr.heap[rb]? = some (.cells #[.int .i64 b.name, .string b.own, .int .i64 b.pe, .int .i64 (lastLn l.st b.who l.stn), .int .i64 (lastCab l.ro b.who j)] 116 (0, 0)) ∧ Kept R0 wr (fun b => b = rb)) (fun _ q _ => l.ron - (intOf q).toNat)
              case atStart => exact ⟨0, Nat.zero_le _, rfl, bR, hkp0⟩
              case round =>
                obtain ⟨j, hj, rfl, hR, hkp⟩ := hrel
                have hbx : Below wc.heap.size wc wr := Kept.below hbr hbr.size hkp (fun g e => by have e : g = rb := e; omega)
                have hbw := after hb1 hbx
                have bB3 := hkp.blk bB2 (by omega)
                by_cases hjl : j < l.ron
                · obtain ⟨sb, so, rfl, h0, h1, h2, h3⟩ := HRO.out j hjl
                  have lsb := World.block_lt_of_cell? w _ h0
                  have c0 : wr.cell? ⟨sb, so + j * 4, none⟩ = some (.int .i64 (l.ro j).who) := (hbw.cell (p := ⟨sb, so + j * 4, none⟩) lsb).trans h0
                  have c1 : wr.cell? ⟨sb, so + j * 4 + 1, none⟩ = some (.int .i64 (l.ro j).cab) := (hbw.cell (p := ⟨sb, so + j * 4 + 1, none⟩) lsb).trans h1
                  have c2 : wr.cell? ⟨sb, so + j * 4 + 2, none⟩ = some (.int .i64 (l.ro j).many) := (hbw.cell (p := ⟨sb, so + j * 4 + 2, none⟩) lsb).trans h2
                  have c3 : wr.cell? ⟨sb, so + j * 4 + 3, none⟩ = some (.bool (l.ro j).all) := (hbw.cell (p := ⟨sb, so + j * 4 + 3, none⟩) lsb).trans h3
                  clear h0 h1 h2 h3
                  have y1 : ∀ o, (wr.alloc o).cell? ⟨bbx, 1, none⟩ = some (.int .i64 b.who) := fun o => blk_cell (blk_alloc bB3 o) 1 _ rfl
                  have r3 : ∀ o, (wr.alloc o).cell? ⟨rb, 4, none⟩ = some (.int .i64 (lastCab l.ro b.who j)) := fun o => blk_cell (blk_alloc hR o) 4 _ rfl
                  have g3 : ∀ o, (wr.alloc o).frozen? ⟨rb, 4, none⟩ = false := fun o => blk_free (blk_alloc hR o) 4
                  have i1 : (0 : Int) ≤ (j : Int) := by omega
                  have i2 : (j : Int) < (l.ron : Int) := by omega
                  by_cases he : (l.ro j).who = b.who
                  · have e1 : ((l.ro j).who == b.who) = true := by simpa using he
                    have HE : Hid ((l.ro j).who = b.who) := he
                    clear he
                    go_wp2
                    go_roundw
                    case rel => exact ⟨j + 1, by omega, by go_num, by rw [show lastCab l.ro b.who (j + 1) = (l.ro j).cab by rw [lastCab, if_pos HE.out]]; exact rowcab_set (blk_alloc hR _) _, (hkp.trans (Kept.of_below (push (Below.refl _ _) _))).set (a := ⟨rb, 4, none⟩) rfl _⟩
                    case measure => simp [intOf]; omega
                  · have e1 : ((l.ro j).who == b.who) = false := by simpa using he
                    have HE : Hid (¬ (l.ro j).who = b.who) := he
                    clear he
                    go_wp2
                    go_roundw
                    case rel => exact ⟨j + 1, by omega, by go_num, by rw [show lastCab l.ro b.who (j + 1) = lastCab l.ro b.who j by rw [lastCab, if_neg HE.out]]; exact blk_alloc hR _, hkp.trans (Kept.of_below (push (Below.refl _ _) _))⟩
                    case measure => simp [intOf]; omega
                · obtain rfl : j = l.ron := by omega
                  have hown4 := hkp.own hown3 (fun g hg e => by have := HVB.out g hg; have e : g = rb := e; omega)
                  have r0 := blk_cell hR 0 _ rfl
                  have r1 := blk_cell hR 1 _ rfl
                  have r2 := blk_cell hR 2 _ rfl
                  have r3 := blk_cell hR 3 _ rfl
                  have r4 := blk_cell hR 4 _ rfl
                  have hsz := hbx.size
                  clear bB3 bB2 hbw bR hkp hkp0 hR hj hjl
                  have HNW : Hid (∀ ad, (some ⟨wr.heap.size, 0, none⟩ : Option Addr) = some ad → ∀ j u, ([.int .i64 b.name, .string b.own, .int .i64 b.pe, .int .i64 (lastLn l.st b.who l.stn), .int .i64 (lastCab l.ro b.who l.ron)] : List Value)[j]? = some u → (wr.alloc (.cells #[.int .i64 b.name, .string b.own, .int .i64 b.pe, .int .i64 (lastLn l.st b.who l.stn), .int .i64 (lastCab l.ro b.who l.ron)] 116)).cell? (ad.add j) = some u) := by
                    intro ad e
                    cases e
                    exact World.news_of_block (heap_alloc_new wr _)
                  go_wp2_with (first | (at_builtin; refine wpList_append_any _ (by rfl) (.tmp 79) (.tmp 81) 55 (by rfl) wc.heap.size 116 j0 (.agg #[.int .i64 0, .string ⟨#[]⟩, .int .i64 0, .int .i64 0, .int .i64 0]) 5 48 Tryz.underlying55 ji jz0 jz1 jz2 rfl (by decide) _ r (rowList (nthR (rowsL l x.bk z i)) r) (by rfl) (hown4.alloc _) (some ⟨wr.heap.size, 0, none⟩) 1 1 [.int .i64 b.name, .string b.own, .int .i64 b.pe, .int .i64 (lastLn l.st b.who l.stn), .int .i64 (lastCab l.ro b.who l.ron)] (by rfl) (fun h => (by cases h)) (by rfl) HNW.out (by intro u hu; simp at hu; rcases hu with rfl | rfl | rfl | rfl | rfl <;> rfl) (by unfold maxLen; omega) (by omega) (by simp; omega) ?_; intro v' w3 ho3 hg3))
                  go_roundw
                  case rel =>
                    refine ⟨i + 1, r + 1, by omega, by go_num, ?_, ?_, (push hbx _).grown hg3 (by simp; omega) (fun j hj => (hown4.lt j hj).1)⟩
                    · rw [rowsL_yes HON.out, List.length_append, ← HRD.out]; rfl
                    · have e := rowList_snoc (rowsL l x.bk z i) (rowOf l (x.bk i))
                      rw [← HRD.out] at e
                      rw [rowsL_yes HON.out, e, ← HBB.out]
                      exact ho3
                  case measure => simp [intOf]; omega
    · obtain rfl : i = x.bkn := by omega
      go_wp2
      go_ret
      exact ⟨⟨_, rfl, by rw [← HRD.out]; exact own_base hown hb1.size⟩, hbw⟩
end Go.Proofs.YtlelckbeoclhbaaGreat

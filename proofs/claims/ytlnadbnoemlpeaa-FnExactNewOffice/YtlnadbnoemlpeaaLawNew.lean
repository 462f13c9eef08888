/-
  OWN TEXT: the walk of laws.FnExactNewOffice: it returns true, and nothing that was there is written.
-/
import Derived.Test.YtlnadbnoemlpeaaSpecOwn
import Derived.Test.YtlnadbnoemlpeaaMarkO0
import Derived.Test.YtlnadbnoemlpeaaMarkT
namespace Go.Proofs.Ytlnadbnoemlpeaa
open Go.RowKit

theorem specNew_n (ao : Option Addr) (N c n : Nat) (ok : Bool) (S : Nat → Sail) (w : World) (hn : nN N S = n) (hok : nOk N S = ok) (hN : N ≤ 1048576) (hs : ShortAll N S 1048576) (hz : SailsAt w ao N S) :
    Calls Try.prog 5 #[.slice ao N c] w fun e w' => (∃ a1 c1 l1 d1, e = .returned (.tuple #[.agg #[.slice a1 n c1, .slice l1 n d1, .slice none 0 0], .bool ok]) ∧ SailsAt w' a1 n S ∧ Loads0 w' l1 n) ∧ Below w.heap.size w w' := by
  subst hn; subst hok; exact specNew_any ao N c S w hN hs hz
theorem implNew_n (ao : Option Addr) (N c n : Nat) (ok : Bool) (S : Nat → Sail) (w : World) (hn : nN N S = n) (hok : nOk N S = ok) (hN : N ≤ 1048576) (hs : ShortAll N S 1048576) (hz : SailsAt w ao N S) :
    Calls Try.prog 7 #[.slice ao N c] w fun e w' => (∃ a1 c1 l1 d1 L C, e = .returned (.tuple #[.agg #[.slice a1 n c1, .slice l1 n d1, .slice none 0 0], .bool ok]) ∧ OwnSails w' w.heap.size (.slice a1 n c1) n S L C ∧ w'.ownsRow w.heap.size 66 3 (.slice l1 n d1) n (nilRow n)) ∧ Below w.heap.size w w' := by
  subst hn; subst hok
  refine (implNew_any ao N c S w hN hs hz).mono ?_
  rintro e w' ⟨⟨v, lv, L, C, rfl, hO, hE⟩, hb⟩
  obtain ⟨a1, c1, rfl, _⟩ := own_form hO.row
  obtain ⟨l1, d1, rfl, _⟩ := own_form hE
  exact ⟨⟨a1, c1, l1, d1, L, C, rfl, hO, hE⟩, hb⟩

set_option maxHeartbeats 6400000 in
set_option maxRecDepth 100000 in
theorem lawNewOffice (ao : Option Addr) (N c : Nat) (S : Nat → Sail) (w : World) (hN : N ≤ 1000000000000000) (hs : ShortAll N S 1000000000000000) (hx : SailsAt w ao N S) :
    Calls Try.prog 3 #[.slice ao N c] w fun e w' => e = .returned (.bool true) ∧ Below w.heap.size w w' := by
  go_enter Try.func3, Try.ntmps3
  go_wp2_with fail
  refine (szSailingS_any ao N c S _ hN hs hx).mono ?_
  rintro e w1 ⟨r, rfl, hr, hb1⟩
  rcases hr with rfl | ⟨r0, hf, hs2⟩
  · go_wp2
    go_ret
    exact ⟨rfl, hb1⟩
  have HS : Hid (ShortAll N S 1048576) := hs2
  have HL : Hid (∀ i, i < N → (S i).la.n ≤ 1048576) := fun i hi => (hs2 i hi).2.2.1
  have HC : Hid (∀ i, i < N → (S i).ca.n ≤ 1048576) := fun i hi => (hs2 i hi).2.2.2
  have d0 : decide (r < 0) = false := by simpa using r0
  have HX : Hid (SailsAt w ao N S) := hx
  clear hs2 hs hx
  obtain ⟨n, hn⟩ : ∃ n, nN N S = n := ⟨_, rfl⟩
  obtain ⟨ok, hok⟩ : ∃ ok, nOk N S = ok := ⟨_, rfl⟩
  have HN : Hid (nN N S = n ∧ nOk N S = ok) := ⟨hn, hok⟩
  have hnN : n ≤ N := hn ▸ nN_le N S
  have HSn : Hid (ShortAll n S 1048576) := fun i hi => HS.out i (by omega)
  have HT : Hid (∀ i, i < n → (S i).la.n ≤ 1048576 ∧ (S i).ca.n ≤ 1048576) := fun i hi => ⟨HL.out i (by omega), HC.out i (by omega)⟩
  have hn1 : n ≤ 1048576 := by omega
  clear hn hok
  go_wp2_with fail
  refine (toSailingS_any ao N c S _ hf HS.out (HX.out.below hb1)).mono ?_
  rintro e w2 ⟨g, h, q, rfl, hl2, hb2⟩
  have hl2 := hl2.sails HL.out HC.out
  have hbel2 := after hb1 hb2
  clear hb1 hb2
  go_wp2_with fail
  refine (specNew_n _ N N n ok S _ HN.out.1 HN.out.2 hf HS.out hl2).mono ?_
  rintro e w3 ⟨⟨a1, c1, l1, e1, rfl, hWs, hWl⟩, hb3⟩
  have HB3 : Hid (Below w.heap.size w w3) := after hbel2 hb3
  have HW : Hid (SailsAt w3 a1 n S ∧ Loads0 w3 l1 n) := ⟨hWs, hWl⟩
  clear hbel2 hb3 hl2 hWs hWl
  have bW := heap_alloc_new w3 (.cells #[.slice a1 n c1, .slice l1 n e1, .slice none 0 0] 28)
  have HB : Below w3.heap.size w3 (w3.alloc (.cells #[.slice a1 n c1, .slice l1 n e1, .slice none 0 0] 28)) := push (Below.refl _ _) _
  go_wp2_with fail
  generalize w3.alloc (.cells #[.slice a1 n c1, .slice l1 n e1, .slice none 0 0] 28) = V3 at bW HB ⊢
  have hV3 := blk_lt bW
  refine (toSailingS_any ao N c S _ hf HS.out (HX.out.below (after HB3.out HB))).mono ?_
  rintro e w4 ⟨g4, h4, q4, rfl, hl, hb⟩
  replace bW := blk_below bW hb
  replace HB := after HB hb
  have HK : Hid (w.heap.size ≤ w3.heap.size ∧ w3.heap.size < V3.heap.size ∧ V3.heap.size ≤ g4 ∧ g4 < w4.heap.size ∧ (∀ i, i < N → q4 i < w4.heap.size)) := ⟨HB3.out.size, hV3, hl.lo, hl.row.lt, fun i hi => (hl.cabins i hi).2.lt⟩
  clear hb hV3
  go_wp2_with fail
  refine (implNew_n _ N N n ok S _ HN.out.1 HN.out.2 hf HS.out (hl.sails HL.out HC.out)).mono ?_
  rintro e w5 ⟨⟨a2, c2, l2, e2, L, C, rfl, hO, hE⟩, hb⟩
  replace bW := blk_below bW hb
  replace HB := after HB hb
  replace hl := hl.below hb
  have HS5 : Hid (w4.heap.size ≤ w5.heap.size) := hb.size
  have HLI : Hid (OwnLim (.slice a2 n c2) n L C w5.heap.size) := hO.lim
  clear hb
  have hp := push (Below.refl w5.heap.size w5) (.cells #[.slice a2 n c2, .slice l2 n e2, .slice none 0 0] 28)
  have bG := heap_alloc_new w5 (.cells #[.slice a2 n c2, .slice l2 n e2, .slice none 0 0] 28)
  replace bW := blk_below bW hp
  replace HB := after HB hp
  replace hl := hl.below hp
  replace hO := hO.below hp
  replace hE := own_below hp hE
  clear hp
  have x0 := blk_cell bW 0 _ rfl
  have x1 := blk_cell bW 1 _ rfl
  have x2 := blk_cell bW 2 _ rfl
  have y0 := blk_cell bG 0 _ rfl
  have y1 := blk_cell bG 1 _ rfl
  have y2 := blk_cell bG 2 _ rfl
  go_wp2_with fail
  generalize w5.alloc (.cells #[.slice a2 n c2, .slice l2 n e2, .slice none 0 0] 28) = V5 at *
  refine (eqOffice0 a2 a1 l2 l1 n c2 c1 e2 e1 S _ hn1 HSn.out hO.at (HW.out.1.below HB) (loads0_of_own hE) (HW.out.2.below HB)).mono ?_
  rintro e w6 ⟨rfl, hb⟩
  clear x0 x1 x2 y0 y1 y2
  replace bW := blk_below bW hb
  replace bG := blk_below bG hb
  replace HB := after HB hb
  replace hl := hl.below hb
  replace hO := hO.below hb
  replace hE := own_below hb hE
  clear hb
  go_wp2_with fail
  refine (toSailingS_any ao N c S _ hf HS.out (HX.out.below (after HB3.out HB))).mono ?_
  rintro e w7 ⟨g7, h7, q7, rfl, hl7, hb⟩
  replace bW := blk_below bW hb
  replace bG := blk_below bG hb
  replace HB := after HB hb
  replace hl := hl.below hb
  replace hO := hO.below hb
  replace hE := own_below hb hE
  clear hb
  go_wp2_with fail
  refine (eqSailingS_same _ _ N N N S _ hf HS.out (hl.sails HL.out HC.out) (hl7.sails HL.out HC.out)).mono ?_
  rintro e w8 ⟨rfl, hb⟩
  replace bW := blk_below bW hb
  replace bG := blk_below bG hb
  replace HB := after HB hb
  replace hl := hl.below hb
  replace hO := hO.below hb
  replace hE := own_below hb hE
  clear hb
  clear hl7
  go_wp2_with fail
  refine (markSailingS_own g4 N w4.heap.size _ 1 _ _ _ _ _ hf (by omega) HL.out HC.out HK.out.2.2.2.1 HK.out.2.2.2.2 (hl.mark hf HL.out HC.out)).mono ?_
  rintro e w9 ⟨⟨k9, hk9, rfl⟩, hk⟩
  replace bW := hk.blk bW (fun e => by have e : g4 ≤ w3.heap.size ∧ w3.heap.size < w4.heap.size := e; have := HK.out.2.1; have := HK.out.2.2.1; omega)
  replace bG := hk.blk bG (fun e => by have e : g4 ≤ w5.heap.size ∧ w5.heap.size < w4.heap.size := e; have := HS5.out; omega)
  replace hO := hO.kept hk (fun b e => by have e : g4 ≤ b ∧ b < w4.heap.size := e; omega)
  replace hE := hk.own hE (fun b hb e => by have e : g4 ≤ b ∧ b < w4.heap.size := e; have := (World.ownsRow.lt hE b hb).1; omega)
  replace HB := Kept.below HB HB.size hk (fun b e => by have e : g4 ≤ b ∧ b < w4.heap.size := e; have := HK.out.2.1; have := HK.out.2.2.1; omega)
  clear hk hl
  have d9 : decide ((k9 : Int) < 0) = false := by simp
  have x0 := blk_cell bW 0 _ rfl
  have x1 := blk_cell bW 1 _ rfl
  have x2 := blk_cell bW 2 _ rfl
  have y0 := blk_cell bG 0 _ rfl
  have y1 := blk_cell bG 1 _ rfl
  have y2 := blk_cell bG 2 _ rfl
  go_wp2_with fail
  refine (eqOffice0 a2 a1 l2 l1 n c2 c1 e2 e1 S _ hn1 HSn.out hO.at (HW.out.1.below HB) (loads0_of_own hE) (HW.out.2.below HB)).mono ?_
  rintro e w10 ⟨rfl, hb⟩
  clear x0 x1 x2 y0 y1 y2
  replace bW := blk_below bW hb
  replace bG := blk_below bG hb
  replace HB := after HB hb
  replace hO := hO.below hb
  replace hE := own_below hb hE
  clear hb
  have x0 := blk_cell bW 0 _ rfl
  have x1 := blk_cell bW 1 _ rfl
  have x2 := blk_cell bW 2 _ rfl
  have y0 := blk_cell bG 0 _ rfl
  have y1 := blk_cell bG 1 _ rfl
  have y2 := blk_cell bG 2 _ rfl
  go_wp2_with fail
  refine (markOffice0 a2 l2 n c2 e2 _ S L C _ hn1 HT.out hO hE w5.heap.size HLI.out (Nat.le_of_lt (blk_lt bG))).mono ?_
  rintro e w11 ⟨rfl, hO', hE', hk⟩
  clear x0 x1 x2 y0 y1 y2
  clear hO hE
  replace bW := hk.blk bW (fun e => by have e : w4.heap.size ≤ w3.heap.size ∧ w3.heap.size < w5.heap.size := e; have := HK.out.2.1; have := HK.out.2.2.1; have := HK.out.2.2.2.1; omega)
  replace bG := hk.blk bG (fun e => by have e : w4.heap.size ≤ w5.heap.size ∧ w5.heap.size < w5.heap.size := e; omega)
  replace HB := Kept.below HB HB.size hk (fun b e => by have e : w4.heap.size ≤ b ∧ b < w5.heap.size := e; have := HK.out.2.1; have := HK.out.2.2.1; have := HK.out.2.2.2.1; omega)
  clear hk
  obtain ⟨K, hK⟩ : ∃ K : Nat, kS S 1 n = K := ⟨_, rfl⟩
  have HK2 : Hid (kS S 1 n = K) := hK
  rw [hK]
  clear hK
  have dK : decide ((K : Int) < 0) = false := by simp
  have x0 := blk_cell bW 0 _ rfl
  have x1 := blk_cell bW 1 _ rfl
  have x2 := blk_cell bW 2 _ rfl
  have y0 := blk_cell bG 0 _ rfl
  have y1 := blk_cell bG 1 _ rfl
  have y2 := blk_cell bG 2 _ rfl
  go_wp2_with fail
  refine (heldOffice0 a2 l2 n c2 e2 _ S L C _ hn1 HT.out hO' hE').mono ?_
  rintro e w12 ⟨rfl, hb⟩
  rw [HK2.out]
  clear x0 x1 x2 y0 y1 y2
  replace bW := blk_below bW hb
  replace bG := blk_below bG hb
  replace HB := after HB hb
  replace hO' := hO'.below hb
  replace hE' := own_below hb hE'
  clear hb
  go_wp2_with fail
  refine (toSailingS_any ao N c S _ hf HS.out (HX.out.below (after HB3.out HB))).mono ?_
  rintro e w13 ⟨g13, h13, q13, rfl, hl, hb⟩
  replace bW := blk_below bW hb
  replace bG := blk_below bG hb
  replace HB := after HB hb
  replace hO' := hO'.below hb
  replace hE' := own_below hb hE'
  clear hb
  go_wp2_with fail
  refine (implNew_n _ N N n ok S _ HN.out.1 HN.out.2 hf HS.out (hl.sails HL.out HC.out)).mono ?_
  rintro e w14 ⟨⟨a3, c3, l3, e3, L3, C3, rfl, hY, hZ⟩, hb⟩
  replace bW := blk_below bW hb
  replace bG := blk_below bG hb
  replace HB := after HB hb
  replace hO' := hO'.below hb
  replace hE' := own_below hb hE'
  clear hb
  clear hl
  have hp := push (Below.refl w14.heap.size w14) (.cells #[.slice a3 n c3, .slice l3 n e3, .slice none 0 0] 28)
  have bH := heap_alloc_new w14 (.cells #[.slice a3 n c3, .slice l3 n e3, .slice none 0 0] 28)
  replace bW := blk_below bW hp
  replace bG := blk_below bG hp
  replace HB := after HB hp
  replace hO' := hO'.below hp
  replace hE' := own_below hp hE'
  replace hY := hY.below hp
  replace hZ := own_below hp hZ
  clear hp
  have x0 := blk_cell bW 0 _ rfl
  have x1 := blk_cell bW 1 _ rfl
  have x2 := blk_cell bW 2 _ rfl
  have u0 := blk_cell bH 0 _ rfl
  have u1 := blk_cell bH 1 _ rfl
  have u2 := blk_cell bH 2 _ rfl
  go_wp2_with fail
  generalize w14.alloc (.cells #[.slice a3 n c3, .slice l3 n e3, .slice none 0 0] 28) = V14 at *
  refine (eqOffice0 a3 a1 l3 l1 n c3 c1 e3 e1 S _ hn1 HSn.out hY.at (HW.out.1.below HB) (loads0_of_own hZ) (HW.out.2.below HB)).mono ?_
  rintro e w15 ⟨rfl, hb⟩
  clear u0 u1 u2 x0 x1 x2
  replace bW := blk_below bW hb
  replace bG := blk_below bG hb
  replace HB := after HB hb
  replace hO' := hO'.below hb
  replace hE' := own_below hb hE'
  clear hb
  clear hY hZ bH
  have y0 := blk_cell bG 0 _ rfl
  have y1 := blk_cell bG 1 _ rfl
  have y2 := blk_cell bG 2 _ rfl
  go_wp2_with fail
  refine (heldOffice0 a2 l2 n c2 e2 _ S L C _ hn1 HT.out hO' hE').mono ?_
  rintro e w16 ⟨rfl, hb⟩
  clear y0 y1 y2
  rw [HK2.out]
  replace HB := after HB hb
  clear hb
  go_wp2
  go_ret
  exact ⟨rfl, after HB3.out HB⟩

end Go.Proofs.Ytlnadbnoemlpeaa

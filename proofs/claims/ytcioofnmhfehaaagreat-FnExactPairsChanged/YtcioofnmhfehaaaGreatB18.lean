/-
  OWN TEXT: DifferI, Plain3, KitB.
-/
import Derived.Maps.OwnSet
import Derived.Maps.OwnOps
import Derived.Test.YtcioofnmhfehaaaGreatB16
import Derived.Test.YtcioofnmhfehaaaGreatB17
import Derived.Test.YtcioofnmhfehaaaGreatB01
import Derived.Test.YtcioofnmhfehaaaGreatB08
namespace Go.Proofs.YtcioofnmhfehaaaGreat
open Go.RowKit Classical Go.MapKept Go.ChangeMaps

theorem Tryz.keyedI : Maps.Keyed Tryz.prog 3 := Maps.int_keyed Tryz.underlying3
/-- The set of these numbers, as a datum. -/
def Dset (l : List Int) : DataW Unit := Maps.setOf (.agg []) (l.map (Lit.int .i64))
theorem Dset_snoc (l : List Int) (z : Int) : Dset (l ++ [z]) = (Dset l).put (.int .i64 z) (.agg []) := by
  unfold Dset
  rw [List.map_append]
  exact Maps.setOf_snoc _ _ _
/-- The block b is a map that holds just these numbers. -/
def SetOf (w : World) (b : Nat) (l : List Int) : Prop := w.ownsMap Tryz.prog 3 (unitElem (H := Unit)) b l.length (Dset l)
theorem SetOf.kept {w w' : World} {S : Nat → Prop} {b : Nat} {l : List Int} (h : SetOf w b l) (hk : Kept w w' S) (hs : ¬ S b) : SetOf w' b l := by
  obtain ⟨es, clock, hb, r⟩ := h
  exact ⟨es, clock, (hk.block b (blk_lt hb) hs).trans hb, r⟩
theorem SetOf.below {w w' : World} {b : Nat} {l : List Int} (h : SetOf w b l) (hb : Below w.heap.size w w') : SetOf w' b l := h.kept (S := fun _ => False) (Kept.of_below hb) (fun h => h)
noncomputable def plist (S : Nat → Sail) (L M : Nat → Load) (k p : Nat) : List Int := pcTo S L M k ++ pcIn (S k).id (L k) (M k) p
theorem plist_0 (S : Nat → Sail) (L M : Nat → Load) (k : Nat) : plist S L M k 0 = pcTo S L M k := by unfold plist pcIn; exact List.append_nil _
theorem plist_3 (S : Nat → Sail) (L M : Nat → Load) (k : Nat) : plist S L M k 3 = pcTo S L M (k + 1) := by unfold plist; rw [pcTo]
theorem plist_same {S : Nat → Sail} {L M : Nat → Load} {k p : Nat} (h : LoadSame p (L k) (M k)) : plist S L M k (p + 1) = plist S L M k p := by unfold plist; rw [pcIn, if_pos h]
theorem plist_new {S : Nat → Sail} {L M : Nat → Load} {k p : Nat} (h : ¬ LoadSame p (L k) (M k)) : plist S L M k (p + 1) = plist S L M k p ++ [1000 + 3 * (S k).id + p] := by unfold plist; rw [pcIn, if_neg h, List.append_assoc]
theorem plist_len (S : Nat → Sail) (L M : Nat → Load) (k p : Nat) : (plist S L M k p).length ≤ 3 * k + p := by
  unfold plist
  have := pcTo_len S L M k
  have := pcIn_len (S k).id (L k) (M k) p
  rw [List.length_append]
  omega
theorem key_small {z : Int} (h0 : 0 ≤ z) (h1 : z ≤ 1000000) : keyOf Tryz.prog 3 (.int .i64 z) = some (.int .i64 z) := by
  have hw : (Lit.int .i64 z).wf = true := by simp [Lit.wf, IntKind.min, IntKind.max, IntKind.signed, IntKind.bits]; omega
  simp [keyOf, mapKey, Tryz.underlying3, hw]

theorem three_at (w : World) : (Instr.index 105 (.agg #[.int .i64 0, .int .i64 1, .int .i64 2]) (.int .i64 0)).run Tryz.prog w = .ok (.int .i64 0) w ∧ (Instr.index 105 (.agg #[.int .i64 0, .int .i64 1, .int .i64 2]) (.int .i64 1)).run Tryz.prog w = .ok (.int .i64 1) w ∧ (Instr.index 105 (.agg #[.int .i64 0, .int .i64 1, .int .i64 2]) (.int .i64 2)).run Tryz.prog w = .ok (.int .i64 2) w := by
  exact ⟨by kernel_rfl, by kernel_rfl, by kernel_rfl⟩

set_option maxHeartbeats 12800000 in
set_option maxRecDepth 100000 in
theorem differ_any (x y : Off) (asa ald abk asa' ald' abk' : Option Addr) (csa cld cbk csa' cld' cbk' : Nat) (w : World) (hs : Off.Short x 1048576) (ht : Off.Short y 1048576) (hok : PcOk x y) (hx : SailsAt w asa x.san x.sa) (hl : LoadsAt w ald x.ldn x.ld) (hm : LoadsAt w ald' y.ldn y.ld) :
    Calls Tryz.prog 23 #[.agg #[.slice asa x.san csa, .slice ald x.ldn cld, .slice abk x.bkn cbk], .agg #[.slice asa' y.san csa', .slice ald' y.ldn cld', .slice abk' y.bkn cbk']] w fun e w' => (∃ B, e = .returned (.map (some B)) ∧ w.heap.size ≤ B ∧ SetOf w' B (pcTo x.sa x.ld y.ld x.san)) ∧ Below w.heap.size w w' := by
  have HX : Hid (SailsAt w asa x.san x.sa) := hx
  have HL : Hid (LoadsAt w ald x.ldn x.ld) := hl
  have HM : Hid (LoadsAt w ald' y.ldn y.ld) := hm
  have HS : Hid (Off.Short x 1048576) := hs
  have HT : Hid (Off.Short y 1048576) := ht
  have HOK : Hid (PcOk x y) := hok
  have n6 : x.san ≤ 6 := hok.1.1
  have e1 : x.ldn = x.san := hok.2.2.1
  have e2 : y.ldn = x.san := hok.2.2.2.trans hok.2.1.1.symm
  have HE : Hid (x.ldn = x.san ∧ y.ldn = x.san) := ⟨e1, e2⟩
  clear hx hl hm hs ht hok e1 e2
  have hmm := @run_makeMap Tryz.prog
  have hb0 : Below w.heap.size w ((w.alloc (.cells #[.slice asa x.san csa, .slice ald x.ldn cld, .slice abk x.bkn cbk] 35)).alloc (.cells #[.slice asa' y.san csa', .slice ald' y.ldn cld', .slice abk' y.bkn cbk'] 35)) := push (push (Below.refl _ _) _) _
  have bA : ((w.alloc (.cells #[.slice asa x.san csa, .slice ald x.ldn cld, .slice abk x.bkn cbk] 35)).alloc (.cells #[.slice asa' y.san csa', .slice ald' y.ldn cld', .slice abk' y.bkn cbk'] 35)).heap[w.heap.size]? = some (.cells #[.slice asa x.san csa, .slice ald x.ldn cld, .slice abk x.bkn cbk] 35 (0, 0)) := blk_alloc (heap_alloc_new w _) _
  have bB : ((w.alloc (.cells #[.slice asa x.san csa, .slice ald x.ldn cld, .slice abk x.bkn cbk] 35)).alloc (.cells #[.slice asa' y.san csa', .slice ald' y.ldn cld', .slice abk' y.bkn cbk'] 35)).heap[w.heap.size + 1]? = some (.cells #[.slice asa' y.san csa', .slice ald' y.ldn cld', .slice abk' y.bkn cbk'] 35 (0, 0)) := by simpa using heap_alloc_new (w.alloc _) _
  have hsz : ((w.alloc (.cells #[.slice asa x.san csa, .slice ald x.ldn cld, .slice abk x.bkn cbk] 35)).alloc (.cells #[.slice asa' y.san csa', .slice ald' y.ldn cld', .slice abk' y.bkn cbk'] 35)).heap.size = w.heap.size + 1 + 1 := by simp
  go_enter Tryz.func23, Tryz.ntmps23
  go_wp2
  generalize (w.alloc (.cells #[.slice asa x.san csa, .slice ald x.ldn cld, .slice abk x.bkn cbk] 35)).alloc (.cells #[.slice asa' y.san csa', .slice ald' y.ldn cld', .slice abk' y.bkn cbk'] 35) = V at hb0 bA bB hsz ⊢
  have HV : Hid (V.heap.size = w.heap.size + 1 + 1) := hsz
  obtain ⟨B, hB⟩ : ∃ B, B = w.heap.size + 1 + 1 := ⟨_, rfl⟩
  have HBV : Hid (V.heap.size ≤ B ∧ w.heap.size ≤ B) := by rw [hB]; exact ⟨by rw [HV.out]; exact Nat.le_refl _, by omega⟩
  have h00 : SetOf (V.alloc (.map #[] 0)) B (pcTo x.sa x.ld y.ld 0) := by
    rw [hB, ← hsz]
    exact World.ownsMap_made _ _ _ _
  rw [← hB]
  clear hsz hB
  go_loopw [14] (fun i wr => ∃ k : Nat, k ≤ x.san ∧ i = .int .i64 k ∧ SetOf wr B (pcTo x.sa x.ld y.ld k) ∧ Below V.heap.size V wr) (fun i _ => x.san - (intOf i).toNat)
  case atStart => exact ⟨0, Nat.zero_le _, rfl, h00, push (Below.refl _ _) _⟩
  case round =>
    clear h00
    obtain ⟨k, hk, rfl, hset, hbel⟩ := hrel
    by_cases hlt : k < x.san
    case neg =>
      obtain rfl : k = x.san := by omega
      go_wp2
      go_ret
      exact ⟨⟨B, rfl, HBV.out.2, hset⟩, after hb0 hbel⟩
    obtain ⟨b, off, la, lc, ca, cc, rfl, g0, g1, g2, g3, g4, g5, g6, g7, k1, k2, z1, z2⟩ := HX.out k hlt
    have l1 : b < w.heap.size := World.block_lt_of_cell? w _ g0
    have hbw := after hb0 hbel
    clear k1 k2 z1 z2
    have c0 : wr.cell? ⟨b, off + k * 8, none⟩ = some (.int .i64 (x.sa k).id) := (hbw.cell (p := ⟨b, off + k * 8, none⟩) l1).trans g0
    have c1 : wr.cell? ⟨b, off + k * 8 + 1, none⟩ = some (.string (x.sa k).fr) := (hbw.cell (p := ⟨b, off + k * 8 + 1, none⟩) l1).trans g1
    have c2 : wr.cell? ⟨b, off + k * 8 + 2, none⟩ = some (.string (x.sa k).dst) := (hbw.cell (p := ⟨b, off + k * 8 + 2, none⟩) l1).trans g2
    have c3 : wr.cell? ⟨b, off + k * 8 + 3, none⟩ = some (.int .i64 (x.sa k).dep) := (hbw.cell (p := ⟨b, off + k * 8 + 3, none⟩) l1).trans g3
    have c4 : wr.cell? ⟨b, off + k * 8 + 4, none⟩ = some (.int .i64 (x.sa k).arr) := (hbw.cell (p := ⟨b, off + k * 8 + 4, none⟩) l1).trans g4
    have c5 : wr.cell? ⟨b, off + k * 8 + 5, none⟩ = some (.slice la (x.sa k).la.n lc) := (hbw.cell (p := ⟨b, off + k * 8 + 5, none⟩) l1).trans g5
    have c6 : wr.cell? ⟨b, off + k * 8 + 6, none⟩ = some (.slice ca (x.sa k).ca.n cc) := (hbw.cell (p := ⟨b, off + k * 8 + 6, none⟩) l1).trans g6
    have c7 : wr.cell? ⟨b, off + k * 8 + 7, none⟩ = some (.int .i64 (x.sa k).most) := (hbw.cell (p := ⟨b, off + k * 8 + 7, none⟩) l1).trans g7
    clear g0 g1 g2 g3 g4 g5 g6 g7 hbw
    go_upto_region 5 with fail
    generalize hG : wr.alloc (.cells #[.int .i64 (x.sa k).id, .string (x.sa k).fr, .string (x.sa k).dst, .int .i64 (x.sa k).dep, .int .i64 (x.sa k).arr, .slice la (x.sa k).la.n lc, .slice ca (x.sa k).ca.n cc, .int .i64 (x.sa k).most] 50) = W at *
    have bS : W.heap[wr.heap.size]? = some (.cells #[.int .i64 (x.sa k).id, .string (x.sa k).fr, .string (x.sa k).dst, .int .i64 (x.sa k).dep, .int .i64 (x.sa k).arr, .slice la (x.sa k).la.n lc, .slice ca (x.sa k).ca.n cc, .int .i64 (x.sa k).most] 50 (0, 0)) := by rw [← hG]; exact heap_alloc_new _ _
    replace hset : SetOf W B (pcTo x.sa x.ld y.ld k) := by rw [← hG]; exact hset.below (push (Below.refl _ _) _)
    replace hbel : Below V.heap.size V W := by rw [← hG]; exact push hbel _
    have HSB : Hid (wr.heap.size ≠ B) := fun e => by
      obtain ⟨es, clock, hb, _⟩ := hset
      rw [← e, bS] at hb
      simp at hb
    obtain ⟨sB, hsB⟩ : ∃ u, u = wr.heap.size := ⟨_, rfl⟩
    rw [← hsB] at bS HSB ⊢
    rw [← plist_0] at hset
    clear hG hsB c0 c1 c2 c3 c4 c5 c6 c7
    obtain ⟨D, hD, hJ⟩ := HL.out
    obtain ⟨D', hD', hJ'⟩ := HM.out
    have hk2 : k < x.ldn := by have := HE.out.1; omega
    have hk3 : k < y.ldn := by have := HE.out.2; omega
    obtain ⟨lb, lo, ea, hc⟩ := hD k hk2
    obtain ⟨lb', lo', ea', hc'⟩ := hD' k hk3
    obtain ⟨ast, cst, aro, cro, ase, cse, eC, hst, sst, hro, sro, hse, sse⟩ := hJ k hk2
    obtain ⟨bst, dst, bro, dro, bse, dse, eC', hst', sst', hro', sro', hse', sse'⟩ := hJ' k hk3
    have l2 : lb < w.heap.size := World.block_lt_of_cell? w _ (hc 0 (by decide))
    have l3 : lb' < w.heap.size := World.block_lt_of_cell? w _ (hc' 0 (by decide))
    have HC : Hid ((w.cell? ⟨lb, lo + k * 3, none⟩ = some (.slice ast (x.ld k).stn cst) ∧ w.cell? ⟨lb, lo + k * 3 + 1, none⟩ = some (.slice aro (x.ld k).ron cro) ∧ w.cell? ⟨lb, lo + k * 3 + 2, none⟩ = some (.slice ase (x.ld k).sen cse)) ∧ w.cell? ⟨lb', lo' + k * 3, none⟩ = some (.slice bst (y.ld k).stn dst) ∧ w.cell? ⟨lb', lo' + k * 3 + 1, none⟩ = some (.slice bro (y.ld k).ron dro) ∧ w.cell? ⟨lb', lo' + k * 3 + 2, none⟩ = some (.slice bse (y.ld k).sen dse)) :=
      ⟨⟨by have := hc 0 (by decide); rw [eC] at this; exact this, by have := hc 1 (by decide); rw [eC] at this; exact this, by have := hc 2 (by decide); rw [eC] at this; exact this⟩, by have := hc' 0 (by decide); rw [eC'] at this; exact this, by have := hc' 1 (by decide); rw [eC'] at this; exact this, by have := hc' 2 (by decide); rw [eC'] at this; exact this⟩
    have HAT : Hid ((StaysAt w ast (x.ld k).stn (x.ld k).st ∧ RoomsAt w aro (x.ld k).ron (x.ld k).ro ∧ SeatsAt w ase (x.ld k).sen (x.ld k).se) ∧ StaysAt w bst (y.ld k).stn (y.ld k).st ∧ RoomsAt w bro (y.ld k).ron (y.ld k).ro ∧ SeatsAt w bse (y.ld k).sen (y.ld k).se) := ⟨⟨hst, hro, hse⟩, hst', hro', hse'⟩
    have HSH : Hid (Load.Short (x.ld k) 1048576 ∧ Load.Short (y.ld k) 1048576) := ⟨HS.out.2.1.2 k hk2, HT.out.2.1.2 k hk3⟩
    have HID : Hid (1 ≤ (x.sa k).id ∧ (x.sa k).id ≤ 99) := (HOK.out.1.2 k hlt).1.1
    subst ea ea'
    clear hD hJ hD' hJ' hc hc' eC eC' hst sst hro sro hse sse hst' sst' hro' sro' hse' sse'
    go_wp2
    go_loopw [20] (fun i wz => ∃ p : Nat, p ≤ 3 ∧ i = .int .i64 p ∧ SetOf wz B (plist x.sa x.ld y.ld k p) ∧ wz.heap[sB]? = some (.cells #[.int .i64 (x.sa k).id, .string (x.sa k).fr, .string (x.sa k).dst, .int .i64 (x.sa k).dep, .int .i64 (x.sa k).arr, .slice la (x.sa k).la.n lc, .slice ca (x.sa k).ca.n cc, .int .i64 (x.sa k).most] 50 (0, 0)) ∧ Below V.heap.size V wz) (fun i _ => 3 - (intOf i).toNat)
    case atStart => exact ⟨0, by omega, rfl, hset, bS, hbel⟩
    case round =>
      clear hset bS hbel
      obtain ⟨p, hp, rfl, hset, bS, hbel⟩ := hrel
      obtain ⟨wz, hwz⟩ : ∃ u, u = wr := ⟨_, rfl⟩
      subst hwz
      have hbw := after hb0 hbel
      have ba : ∀ g : Grown wz, g.val.cell? ⟨w.heap.size, 1, none⟩ = some (.slice (some ⟨lb, lo, none⟩) x.ldn cld) := fun g => blk_cell (blk_below bA (hbel.trans (g.bel.mono hbel.size))) 1 _ rfl
      have bb : ∀ g : Grown wz, g.val.cell? ⟨w.heap.size + 1, 1, none⟩ = some (.slice (some ⟨lb', lo', none⟩) y.ldn cld') := fun g => blk_cell (blk_below bB (hbel.trans (g.bel.mono hbel.size))) 1 _ rfl
      have i1 : (0 : Int) ≤ (k : Int) := by omega
      have i2 : (k : Int) < (x.ldn : Int) := by omega
      have i3 : (k : Int) < (y.ldn : Int) := by omega
      have z0 : ∀ g : Grown wz, g.val.cell? ⟨lb, lo + k * 3, none⟩ = some (.slice ast (x.ld k).stn cst) := fun g => ((hbw.trans (g.bel.mono hbw.size)).cell (p := ⟨lb, lo + k * 3, none⟩) l2).trans HC.out.1.1
      have y0 : ∀ g : Grown wz, g.val.cell? ⟨lb', lo' + k * 3, none⟩ = some (.slice bst (y.ld k).stn dst) := fun g => ((hbw.trans (g.bel.mono hbw.size)).cell (p := ⟨lb', lo' + k * 3, none⟩) l3).trans HC.out.2.1
      have z1 : ∀ g : Grown wz, g.val.cell? ⟨lb, lo + k * 3 + 1, none⟩ = some (.slice aro (x.ld k).ron cro) := fun g => ((hbw.trans (g.bel.mono hbw.size)).cell (p := ⟨lb, lo + k * 3 + 1, none⟩) l2).trans HC.out.1.2.1
      have y1 : ∀ g : Grown wz, g.val.cell? ⟨lb', lo' + k * 3 + 1, none⟩ = some (.slice bro (y.ld k).ron dro) := fun g => ((hbw.trans (g.bel.mono hbw.size)).cell (p := ⟨lb', lo' + k * 3 + 1, none⟩) l3).trans HC.out.2.2.1
      have z2 : ∀ g : Grown wz, g.val.cell? ⟨lb, lo + k * 3 + 2, none⟩ = some (.slice ase (x.ld k).sen cse) := fun g => ((hbw.trans (g.bel.mono hbw.size)).cell (p := ⟨lb, lo + k * 3 + 2, none⟩) l2).trans HC.out.1.2.2
      have y2 : ∀ g : Grown wz, g.val.cell? ⟨lb', lo' + k * 3 + 2, none⟩ = some (.slice bse (y.ld k).sen dse) := fun g => ((hbw.trans (g.bel.mono hbw.size)).cell (p := ⟨lb', lo' + k * 3 + 2, none⟩) l3).trans HC.out.2.2.2
      by_cases hlp : p < 3
      case neg =>
        obtain rfl : p = 3 := by omega
        rw [plist_3] at hset
        clear ba bb z0 z1 z2 y0 y1 y2
        go_wp2
        go_roundw
        case rel => exact ⟨k + 1, by omega, by go_num, hset, hbel⟩
        case measure => simp [intOf]; omega
      have hcase : p = 0 ∨ p = 1 ∨ p = 2 := by omega
      rcases hcase with rfl | rfl | rfl
      · obtain ⟨q, hq⟩ : ∃ q : Bool, q = decide (LoadSame 0 (x.ld k) (y.ld k)) := ⟨_, rfl⟩
        have HP : Hid (q = true ↔ LoadSame 0 (x.ld k) (y.ld k)) := by rw [hq]; exact decide_eq_true_iff
        clear hq
        have HCS : Hid (∀ g : Grown wz, Calls Tryz.prog 42 #[.agg #[.slice ast (x.ld k).stn cst, .slice none 0 0, .slice none 0 0], .agg #[.slice bst (y.ld k).stn dst, .slice none 0 0, .slice none 0 0]] g.val fun e w' => e = .returned (.bool q) ∧ Below g.val.heap.size g.val w') := fun g =>
          sameLoad_raw ast none none bst none none (x.ld k).stn cst 0 0 0 0 (y.ld k).stn dst 0 0 0 0 (x.ld k).st (y.ld k).st (fun _ => Room.zero) (fun _ => Room.zero) (fun _ => Seat.zero) (fun _ => Seat.zero) _ q
            (HP.out.trans ⟨fun h => ⟨h, ⟨rfl, fun i hi => absurd hi (Nat.not_lt_zero _)⟩, rfl, fun i hi => absurd hi (Nat.not_lt_zero _)⟩, fun h => h.1⟩) ⟨HSH.out.1.1, by omega, by omega⟩ ⟨HSH.out.2.1, by omega, by omega⟩ (HAT.out.1.1.below (hbw.trans (g.bel.mono hbw.size))) (fun i hi => absurd hi (Nat.not_lt_zero _)) (fun i hi => absurd hi (Nat.not_lt_zero _)) (HAT.out.2.1.below (hbw.trans (g.bel.mono hbw.size))) (fun i hi => absurd hi (Nat.not_lt_zero _)) (fun i hi => absurd hi (Nat.not_lt_zero _))
        have HO1 : Hid (∀ g : Grown wz, Calls Tryz.prog 43 #[.agg #[.slice ast (x.ld k).stn cst, .slice aro (x.ld k).ron cro, .slice ase (x.ld k).sen cse], .int .i64 0] g.val fun e w' => e = .returned (.agg #[.slice ast (x.ld k).stn cst, .slice none 0 0, .slice none 0 0]) ∧ Below g.val.heap.size g.val w') := fun g => only0_is ast aro ase (x.ld k).stn cst (x.ld k).ron cro (x.ld k).sen cse _
        have HO2 : Hid (∀ g : Grown wz, Calls Tryz.prog 43 #[.agg #[.slice bst (y.ld k).stn dst, .slice bro (y.ld k).ron dro, .slice bse (y.ld k).sen dse], .int .i64 0] g.val fun e w' => e = .returned (.agg #[.slice bst (y.ld k).stn dst, .slice none 0 0, .slice none 0 0]) ∧ Below g.val.heap.size g.val w') := fun g => only0_is bst bro bse (y.ld k).stn dst (y.ld k).ron dro (y.ld k).sen dse _
        have h3 := fun w => (three_at w).1
        go_upto_region 8 with fail
        clear h3
        refine wp_region_grow (by kernel_rfl) (by kernel_rfl) ?_
        repeat (first | go_big_quiet_skip | (go_big_quiet_want; go_big_quiet_op; first | go_big_quiet_on | (apply Exists.intro; refine ⟨fun g => ?_, ?_⟩; (focus (first | (go_at_call 43; (with_reducible refine grown_call (HO1.out g))) | (go_at_call 43; (with_reducible refine grown_call (HO2.out g))) | (go_at_call 42; (with_reducible refine grown_call (HCS.out g))))); go_big_quiet_on)))
        refine wpQuiet_nil ?_
        rintro _ ⟨g, rfl⟩
        replace hset := hset.below g.bel
        replace bS := blk_below bS g.bel
        replace hbel := after hbel g.bel
        clear ba bb z0 z1 z2 y0 y1 y2 HCS HO1 HO2 hbw
        cases q with
        | true =>
          have hsm : LoadSame 0 (x.ld k) (y.ld k) := HP.out.1 rfl
          clear HP
          go_wp2
          go_roundw
          case rel => exact ⟨0 + 1, by omega, by go_num, by rw [plist_same hsm]; exact hset, bS, hbel⟩
          case measure => simp [intOf]
        | false =>
          have hdf : ¬ LoadSame 0 (x.ld k) (y.ld k) := fun h => absurd (HP.out.2 h) (by decide)
          clear HP
          obtain ⟨z, hz⟩ : ∃ z : Int, z = pairKeyV (x.sa k).id 0 := ⟨_, rfl⟩
          have hz2 : z = 1000 + 3 * (x.sa k).id + 0 := by rw [hz]; exact pairKeyV_yes ⟨HID.out, by decide⟩
          have HZ : Hid (pairKeyV (x.sa k).id 0 = z) := hz.symm
          have HZ2 : Hid (z = 1000 + 3 * (x.sa k).id + 0) := hz2
          have HKEY : Hid (keyOf Tryz.prog 3 (.int .i64 z) = some (.int .i64 z)) := key_small (by have := HID.out; omega) (by have := HID.out; omega)
          have hlen : (plist x.sa x.ld y.ld k 0).length ≤ 30 := by have := plist_len x.sa x.ld y.ld k 0; omega
          have HSET : Hid (SetOf g.val B (plist x.sa x.ld y.ld k 0)) := hset
          have x0 := blk_cell bS 0 _ rfl
          clear hz hz2 hset
          go_wp2_with (first
            | (go_at_call 44; refine (implPair_is _ _ _).mono ?_; rintro e w' ⟨he, hw'⟩; rw [HZ.out] at he; subst he; have hw' := hw'.symm; subst hw')
            | (at_mapUpdate; refine wpList_mapUpdate_own _ rfl _ _ _ 67 rfl 3 108 Tryz.keyedI Tryz.underlying67 (unitElem (H := Unit)) B _ _ rfl HSET.out (by unfold maxLen; omega) _ _ _ rfl rfl HKEY.out _ [] unitElem_mk ?_; intro w1 hown1 hgrow1))
          go_roundw
          case rel =>
            refine ⟨0 + 1, by omega, by go_num, ?_, (hgrow1.block sB (blk_lt bS) (by intro e; simp only [Option.some.injEq] at e; exact HSB.out e)).trans bS, hbel.grown hgrow1 hbel.size (fun j hj => by cases hj; exact HBV.out.1)⟩
            rw [plist_new hdf]
            unfold SetOf
            rw [Dset_snoc, List.length_append]
            rw [HZ2.out] at hown1
            exact hown1
          case measure => simp [intOf]
      · obtain ⟨q, hq⟩ : ∃ q : Bool, q = decide (LoadSame 1 (x.ld k) (y.ld k)) := ⟨_, rfl⟩
        have HP : Hid (q = true ↔ LoadSame 1 (x.ld k) (y.ld k)) := by rw [hq]; exact decide_eq_true_iff
        clear hq
        have HCS : Hid (∀ g : Grown wz, Calls Tryz.prog 42 #[.agg #[.slice none 0 0, .slice aro (x.ld k).ron cro, .slice none 0 0], .agg #[.slice none 0 0, .slice bro (y.ld k).ron dro, .slice none 0 0]] g.val fun e w' => e = .returned (.bool q) ∧ Below g.val.heap.size g.val w') := fun g =>
          sameLoad_raw none aro none none bro none 0 0 (x.ld k).ron cro 0 0 0 0 (y.ld k).ron dro 0 0 (fun _ => Stay.zero) (fun _ => Stay.zero) (x.ld k).ro (y.ld k).ro (fun _ => Seat.zero) (fun _ => Seat.zero) _ q
            (HP.out.trans ⟨fun h => ⟨⟨rfl, fun i hi => absurd hi (Nat.not_lt_zero _)⟩, h, rfl, fun i hi => absurd hi (Nat.not_lt_zero _)⟩, fun h => h.2.1⟩) ⟨by omega, HSH.out.1.2.1, by omega⟩ ⟨by omega, HSH.out.2.2.1, by omega⟩ (fun i hi => absurd hi (Nat.not_lt_zero _)) (HAT.out.1.2.1.below (hbw.trans (g.bel.mono hbw.size))) (fun i hi => absurd hi (Nat.not_lt_zero _)) (fun i hi => absurd hi (Nat.not_lt_zero _)) (HAT.out.2.2.1.below (hbw.trans (g.bel.mono hbw.size))) (fun i hi => absurd hi (Nat.not_lt_zero _))
        have HO1 : Hid (∀ g : Grown wz, Calls Tryz.prog 43 #[.agg #[.slice ast (x.ld k).stn cst, .slice aro (x.ld k).ron cro, .slice ase (x.ld k).sen cse], .int .i64 1] g.val fun e w' => e = .returned (.agg #[.slice none 0 0, .slice aro (x.ld k).ron cro, .slice none 0 0]) ∧ Below g.val.heap.size g.val w') := fun g => only1_is ast aro ase (x.ld k).stn cst (x.ld k).ron cro (x.ld k).sen cse _
        have HO2 : Hid (∀ g : Grown wz, Calls Tryz.prog 43 #[.agg #[.slice bst (y.ld k).stn dst, .slice bro (y.ld k).ron dro, .slice bse (y.ld k).sen dse], .int .i64 1] g.val fun e w' => e = .returned (.agg #[.slice none 0 0, .slice bro (y.ld k).ron dro, .slice none 0 0]) ∧ Below g.val.heap.size g.val w') := fun g => only1_is bst bro bse (y.ld k).stn dst (y.ld k).ron dro (y.ld k).sen dse _
        have h3 := fun w => (three_at w).2.1
        go_upto_region 8 with fail
        clear h3
        refine wp_region_grow (by kernel_rfl) (by kernel_rfl) ?_
        repeat (first | go_big_quiet_skip | (go_big_quiet_want; go_big_quiet_op; first | go_big_quiet_on | (apply Exists.intro; refine ⟨fun g => ?_, ?_⟩; (focus (first | (go_at_call 43; (with_reducible refine grown_call (HO1.out g))) | (go_at_call 43; (with_reducible refine grown_call (HO2.out g))) | (go_at_call 42; (with_reducible refine grown_call (HCS.out g))))); go_big_quiet_on)))
        refine wpQuiet_nil ?_
        rintro _ ⟨g, rfl⟩
        replace hset := hset.below g.bel
        replace bS := blk_below bS g.bel
        replace hbel := after hbel g.bel
        clear ba bb z0 z1 z2 y0 y1 y2 HCS HO1 HO2 hbw
        cases q with
        | true =>
          have hsm : LoadSame 1 (x.ld k) (y.ld k) := HP.out.1 rfl
          clear HP
          go_wp2
          go_roundw
          case rel => exact ⟨1 + 1, by omega, by go_num, by rw [plist_same hsm]; exact hset, bS, hbel⟩
          case measure => simp [intOf]
        | false =>
          have hdf : ¬ LoadSame 1 (x.ld k) (y.ld k) := fun h => absurd (HP.out.2 h) (by decide)
          clear HP
          obtain ⟨z, hz⟩ : ∃ z : Int, z = pairKeyV (x.sa k).id 1 := ⟨_, rfl⟩
          have hz2 : z = 1000 + 3 * (x.sa k).id + 1 := by rw [hz]; exact pairKeyV_yes ⟨HID.out, by decide⟩
          have HZ : Hid (pairKeyV (x.sa k).id 1 = z) := hz.symm
          have HZ2 : Hid (z = 1000 + 3 * (x.sa k).id + 1) := hz2
          have HKEY : Hid (keyOf Tryz.prog 3 (.int .i64 z) = some (.int .i64 z)) := key_small (by have := HID.out; omega) (by have := HID.out; omega)
          have hlen : (plist x.sa x.ld y.ld k 1).length ≤ 30 := by have := plist_len x.sa x.ld y.ld k 1; omega
          have HSET : Hid (SetOf g.val B (plist x.sa x.ld y.ld k 1)) := hset
          have x0 := blk_cell bS 0 _ rfl
          clear hz hz2 hset
          go_wp2_with (first
            | (go_at_call 44; refine (implPair_is _ _ _).mono ?_; rintro e w' ⟨he, hw'⟩; rw [HZ.out] at he; subst he; have hw' := hw'.symm; subst hw')
            | (at_mapUpdate; refine wpList_mapUpdate_own _ rfl _ _ _ 67 rfl 3 108 Tryz.keyedI Tryz.underlying67 (unitElem (H := Unit)) B _ _ rfl HSET.out (by unfold maxLen; omega) _ _ _ rfl rfl HKEY.out _ [] unitElem_mk ?_; intro w1 hown1 hgrow1))
          go_roundw
          case rel =>
            refine ⟨1 + 1, by omega, by go_num, ?_, (hgrow1.block sB (blk_lt bS) (by intro e; simp only [Option.some.injEq] at e; exact HSB.out e)).trans bS, hbel.grown hgrow1 hbel.size (fun j hj => by cases hj; exact HBV.out.1)⟩
            rw [plist_new hdf]
            unfold SetOf
            rw [Dset_snoc, List.length_append]
            rw [HZ2.out] at hown1
            exact hown1
          case measure => simp [intOf]
      · obtain ⟨q, hq⟩ : ∃ q : Bool, q = decide (LoadSame 2 (x.ld k) (y.ld k)) := ⟨_, rfl⟩
        have HP : Hid (q = true ↔ LoadSame 2 (x.ld k) (y.ld k)) := by rw [hq]; exact decide_eq_true_iff
        clear hq
        have HCS : Hid (∀ g : Grown wz, Calls Tryz.prog 42 #[.agg #[.slice none 0 0, .slice none 0 0, .slice ase (x.ld k).sen cse], .agg #[.slice none 0 0, .slice none 0 0, .slice bse (y.ld k).sen dse]] g.val fun e w' => e = .returned (.bool q) ∧ Below g.val.heap.size g.val w') := fun g =>
          sameLoad_raw none none ase none none bse 0 0 0 0 (x.ld k).sen cse 0 0 0 0 (y.ld k).sen dse (fun _ => Stay.zero) (fun _ => Stay.zero) (fun _ => Room.zero) (fun _ => Room.zero) (x.ld k).se (y.ld k).se _ q
            (HP.out.trans ⟨fun h => ⟨⟨rfl, fun i hi => absurd hi (Nat.not_lt_zero _)⟩, ⟨rfl, fun i hi => absurd hi (Nat.not_lt_zero _)⟩, h⟩, fun h => h.2.2⟩) ⟨by omega, by omega, HSH.out.1.2.2⟩ ⟨by omega, by omega, HSH.out.2.2.2⟩ (fun i hi => absurd hi (Nat.not_lt_zero _)) (fun i hi => absurd hi (Nat.not_lt_zero _)) (HAT.out.1.2.2.below (hbw.trans (g.bel.mono hbw.size))) (fun i hi => absurd hi (Nat.not_lt_zero _)) (fun i hi => absurd hi (Nat.not_lt_zero _)) (HAT.out.2.2.2.below (hbw.trans (g.bel.mono hbw.size)))
        have HO1 : Hid (∀ g : Grown wz, Calls Tryz.prog 43 #[.agg #[.slice ast (x.ld k).stn cst, .slice aro (x.ld k).ron cro, .slice ase (x.ld k).sen cse], .int .i64 2] g.val fun e w' => e = .returned (.agg #[.slice none 0 0, .slice none 0 0, .slice ase (x.ld k).sen cse]) ∧ Below g.val.heap.size g.val w') := fun g => only2_is ast aro ase (x.ld k).stn cst (x.ld k).ron cro (x.ld k).sen cse _
        have HO2 : Hid (∀ g : Grown wz, Calls Tryz.prog 43 #[.agg #[.slice bst (y.ld k).stn dst, .slice bro (y.ld k).ron dro, .slice bse (y.ld k).sen dse], .int .i64 2] g.val fun e w' => e = .returned (.agg #[.slice none 0 0, .slice none 0 0, .slice bse (y.ld k).sen dse]) ∧ Below g.val.heap.size g.val w') := fun g => only2_is bst bro bse (y.ld k).stn dst (y.ld k).ron dro (y.ld k).sen dse _
        have h3 := fun w => (three_at w).2.2
        go_upto_region 8 with fail
        clear h3
        refine wp_region_grow (by kernel_rfl) (by kernel_rfl) ?_
        repeat (first | go_big_quiet_skip | (go_big_quiet_want; go_big_quiet_op; first | go_big_quiet_on | (apply Exists.intro; refine ⟨fun g => ?_, ?_⟩; (focus (first | (go_at_call 43; (with_reducible refine grown_call (HO1.out g))) | (go_at_call 43; (with_reducible refine grown_call (HO2.out g))) | (go_at_call 42; (with_reducible refine grown_call (HCS.out g))))); go_big_quiet_on)))
        refine wpQuiet_nil ?_
        rintro _ ⟨g, rfl⟩
        replace hset := hset.below g.bel
        replace bS := blk_below bS g.bel
        replace hbel := after hbel g.bel
        clear ba bb z0 z1 z2 y0 y1 y2 HCS HO1 HO2 hbw
        cases q with
        | true =>
          have hsm : LoadSame 2 (x.ld k) (y.ld k) := HP.out.1 rfl
          clear HP
          go_wp2
          go_roundw
          case rel => exact ⟨2 + 1, by omega, by go_num, by rw [plist_same hsm]; exact hset, bS, hbel⟩
          case measure => simp [intOf]
        | false =>
          have hdf : ¬ LoadSame 2 (x.ld k) (y.ld k) := fun h => absurd (HP.out.2 h) (by decide)
          clear HP
          obtain ⟨z, hz⟩ : ∃ z : Int, z = pairKeyV (x.sa k).id 2 := ⟨_, rfl⟩
          have hz2 : z = 1000 + 3 * (x.sa k).id + 2 := by rw [hz]; exact pairKeyV_yes ⟨HID.out, by decide⟩
          have HZ : Hid (pairKeyV (x.sa k).id 2 = z) := hz.symm
          have HZ2 : Hid (z = 1000 + 3 * (x.sa k).id + 2) := hz2
          have HKEY : Hid (keyOf Tryz.prog 3 (.int .i64 z) = some (.int .i64 z)) := key_small (by have := HID.out; omega) (by have := HID.out; omega)
          have hlen : (plist x.sa x.ld y.ld k 2).length ≤ 30 := by have := plist_len x.sa x.ld y.ld k 2; omega
          have HSET : Hid (SetOf g.val B (plist x.sa x.ld y.ld k 2)) := hset
          have x0 := blk_cell bS 0 _ rfl
          clear hz hz2 hset
          go_wp2_with (first
            | (go_at_call 44; refine (implPair_is _ _ _).mono ?_; rintro e w' ⟨he, hw'⟩; rw [HZ.out] at he; subst he; have hw' := hw'.symm; subst hw')
            | (at_mapUpdate; refine wpList_mapUpdate_own _ rfl _ _ _ 67 rfl 3 108 Tryz.keyedI Tryz.underlying67 (unitElem (H := Unit)) B _ _ rfl HSET.out (by unfold maxLen; omega) _ _ _ rfl rfl HKEY.out _ [] unitElem_mk ?_; intro w1 hown1 hgrow1))
          go_roundw
          case rel =>
            refine ⟨2 + 1, by omega, by go_num, ?_, (hgrow1.block sB (blk_lt bS) (by intro e; simp only [Option.some.injEq] at e; exact HSB.out e)).trans bS, hbel.grown hgrow1 hbel.size (fun j hj => by cases hj; exact HBV.out.1)⟩
            rw [plist_new hdf]
            unfold SetOf
            rw [Dset_snoc, List.length_append]
            rw [HZ2.out] at hown1
            exact hown1
          case measure => simp [intOf]

end Go.Proofs.YtcioofnmhfehaaaGreat

namespace Go.Proofs.YtcioofnmhfehaaaGreat

/-- The values of the used ones among the first k slots. -/
def recs (U : Nat → Bool) (V : Nat → Int) : Nat → List Int
  | 0 => []
  | k + 1 => if U k then recs U V k ++ [V k] else recs U V k
theorem recs_yes {U : Nat → Bool} {V : Nat → Int} {k : Nat} (h : U k = true) : recs U V (k + 1) = recs U V k ++ [V k] := by rw [recs, if_pos h]
theorem recs_no {U : Nat → Bool} {V : Nat → Int} {k : Nat} (h : U k = false) : recs U V (k + 1) = recs U V k := by rw [recs, h]; rfl
theorem recs_le (U : Nat → Bool) (V : Nat → Int) (k : Nat) : (recs U V k).length ≤ k := by
  induction k with
  | zero => exact Nat.le_refl _
  | succ k ih =>
    cases h : U k with
    | true => rw [recs_yes h]; simp; exact ih
    | false => rw [recs_no h]; omega
/-- Place j of a list of numbers. -/
def getI (l : List Int) (j : Nat) : Int := l.getD j 0
/-- The cells of a list of numbers. -/
def cellsI (l : List Int) : List Value := intList (getI l) l.length
theorem cellsI_snoc (l : List Int) (x : Int) : cellsI (l ++ [x]) = cellsI l ++ [.int .i64 x] := by
  unfold cellsI
  rw [List.length_append, List.length_singleton, intList_succ]
  congr 1
  · unfold intList
    refine List.map_congr_left fun j hj => ?_
    have hj' : j < l.length := by simpa using hj
    simp [getI, List.getElem?_append_left hj']
  · simp [getI]
theorem cellsI_nil : cellsI [] = [] := rfl

end Go.Proofs.YtcioofnmhfehaaaGreat

namespace Go.Proofs.YtcioofnmhfehaaaGreat
open Go.RowKit

theorem wpList_append_any {P : Program} (w : World) {ops : Array Oper} {rest : List Oper} {o : Oper} {a : Act} {Q : Exit → Act → World → Prop}
    (hg : o.guard = none) (s x : Operand) (t : TypeId) (hop : o.op = Op.call { callee := Callee.builtin Builtin.append, args := #[s, x], argTypes := #[t, t] })
    (base : Nat) (e : TypeId) (i : TypeInfo) (z : Value) (size bytes : Nat) (h1 : P.underlying t = some (.slice e)) (h2 : P.info? e = some i) (h3 : i.zero = some z) (h4 : i.size = size) (h5 : i.bytes = bytes) (h6 : z.cells.size = size) (h7 : 0 < size)
    (v : Value) (n : Nat) (xs : List Value) (hs : a.eval s = v) (h : w.ownsRow base e size v n xs)
    (sa : Option Addr) (m c : Nat) (news : List Value) (hx : a.eval x = .slice sa m c) (hnil : sa = none → m = 0 ∧ c = 0) (hn : news.length = m * size) (hc : ∀ ad, sa = some ad → ∀ j u, news[j]? = some u → w.cell? (ad.add j) = some u) (h1c : ∀ u ∈ news, u.oneCell' = true)
    (b1 : n + m ≤ maxLen) (b2 : (n + m) * bytes ≤ 140737488355328) (hbase : base ≤ w.heap.size)
    (hK : ∀ v' w', w'.ownsRow base e size v' (n + m) (xs ++ news) → w.grownBy w' v.ownBlock → wpList P ops Q rest (a.put o.dst v') w') :
    wpList P ops Q (o :: rest) a w := by
  cases sa with
  | none =>
    obtain ⟨rfl, rfl⟩ := hnil rfl
    have hnews : news = [] := List.eq_nil_of_length_eq_zero (by simpa using hn)
    subst hnews
    refine wpList_append_own_none hg s x t hop base e i size h1 h2 v n xs hs h hx (hK v w ?_ (World.grownBy.refl w _))
    rw [Nat.add_zero, List.append_nil]; exact h
  | some ad =>
    refine wpList_append_own w hg s x t hop base e i z size bytes h1 h2 h3 h4 h5 h6 h7 v n xs hs h ad m c news hx hn (hc ad rfl) h1c b1 b2 hbase ?_
    intro v' w' ho hgr _
    exact hK v' w' ho hgr

theorem ints_cells {w : World} {ao : Option Addr} {ls : List Int} (h : IntsAt w ao ls.length (getI ls)) : ∀ ad, ao = some ad → ∀ j u, (cellsI ls)[j]? = some u → w.cell? (ad.add j) = some u := by
  intro ad e j u hu
  obtain ⟨hj, rfl⟩ := intList_get _ _ _ _ hu
  obtain ⟨b, off, e2, hc⟩ := h j hj
  rw [e] at e2
  cases e2
  rw [Addr.add_lit]
  exact hc
theorem cellsI_length (ls : List Int) : (cellsI ls).length = ls.length := by unfold cellsI; exact intList_length _ _
theorem cellsI_one (ls : List Int) : ∀ u ∈ cellsI ls, u.oneCell' = true := intList_one _ _
theorem cellsI_append (a b : List Int) : cellsI (a ++ b) = cellsI a ++ cellsI b := by
  have key : ∀ l : List Int, cellsI l = l.map (fun x => .int .i64 x) := by
    intro l
    unfold cellsI intList getI
    apply List.ext_getElem?
    intro i
    by_cases hi : i < l.length
    · rw [List.getElem?_map, List.getElem?_range hi, List.getElem?_map, List.getElem?_eq_getElem hi]
      simp [List.getD_eq_getElem?_getD, List.getElem?_eq_getElem hi]
    · rw [List.getElem?_eq_none (by simpa using hi), List.getElem?_eq_none (by simpa using hi)]
  rw [key, key, key, List.map_append]
theorem own_legs {w : World} {base e c : Nat} {ao : Option Addr} {ls : List Int} {n : Nat} (hn : ls.length = n) (h : w.ownsRow base e 1 (.slice ao n c) n (cellsI ls)) : IntsAt w ao n (getI ls) := by
  subst hn
  exact own_ints h

end Go.Proofs.YtcioofnmhfehaaaGreat

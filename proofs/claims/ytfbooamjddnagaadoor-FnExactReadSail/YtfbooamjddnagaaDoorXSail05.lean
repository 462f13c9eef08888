/-
  OWN TEXT: ImplS2, ImplS3, SailI, PlainRs.
-/
import Derived.Deep.RegionHeld3
import Derived.Test.YtfbooamjddnagaaDoorXSail04
import Derived.Test.YtfbooamjddnagaaDoorXSail03
namespace Go.Proofs.YtfbooamjddnagaaDoor
open Go.RowKit

end Go.Proofs.YtfbooamjddnagaaDoor

namespace Go.Proofs.YtfbooamjddnagaaDoor
open Go.RowKit

set_option maxHeartbeats 1600000 in
set_option maxRecDepth 100000 in
theorem implSailing_any (x d a mo : Int) (fr tt : ByteArray) (lo co : Option Addr) (n m c1 c2 : Nat) (l1 l2 : Pairs) (w : World) (e1 : l1.n = n) (e2 : l2.n = m) (hfr : fr.size ≤ 1000000000000000) (hto : tt.size ≤ 1000000000000000) (hn : n ≤ 1048576) (hm : m ≤ 1048576) (hx : PairsAt w lo l1) (hy : PairsAt w co l2) :
    Calls Tryd.prog 54 #[.agg #[.int .i64 x, .string fr, .string tt, .int .i64 d, .int .i64 a, .slice lo n c1, .slice co m c2, .int .i64 mo]] w fun e w' => SaysIf (GoodSail ⟨x, fr, tt, d, a, l1, l2, mo⟩) e ∧ Below w.heap.size w w' := by
  have hb0 : Below w.heap.size w (w.alloc (.cells #[.int .i64 x, .string fr, .string tt, .int .i64 d, .int .i64 a, .slice lo n c1, .slice co m c2, .int .i64 mo] 49)) := push (Below.refl _ _) _
  have A0 := heap_alloc_new w (.cells #[.int .i64 x, .string fr, .string tt, .int .i64 d, .int .i64 a, .slice lo n c1, .slice co m c2, .int .i64 mo] 49)
  have E1 : Hid (l1.n = n) := e1
  have E2 : Hid (l2.n = m) := e2
  clear e1 e2
  by_cases g1 : In x 1 99
  case neg =>
    have fg1 : decide (In x 1 99) = false := by exact decide_eq_false g1
    have HN : Hid (¬ GoodSail ⟨x, fr, tt, d, a, l1, l2, mo⟩) := fun h => g1 h.1
    clear g1
    go_enter Tryd.func54, Tryd.ntmps54
    go_wp2_with (first | (go_at_call 92; refine (sailingId_is _ _).mono ?_; rintro e w' ⟨rfl, hw'⟩; have hw' := hw'.symm; subst hw') | (go_at_call 93; refine (unlikeNames_is _ _ _ hfr hto).mono ?_; rintro e w' ⟨rfl, hw'⟩; have hw' := hw'.symm; subst hw') | (go_at_call 69; refine (within_is _ _ _ _).mono ?_; rintro e w' ⟨rfl, hw'⟩; have hw' := hw'.symm; subst hw'))
    go_ret
    exact ⟨says_no HN.out, hb0⟩
  have fg1 : decide (In x 1 99) = true := by exact decide_eq_true g1
  by_cases g2 : Unlike fr tt
  case neg =>
    have fg2 : decide (Unlike fr tt) = false := by exact decide_eq_false g2
    have HN : Hid (¬ GoodSail ⟨x, fr, tt, d, a, l1, l2, mo⟩) := fun h => g2 ⟨h.2.1, h.2.2.1, h.2.2.2.1⟩
    clear g1 g2
    go_enter Tryd.func54, Tryd.ntmps54
    go_wp2_with (first | (go_at_call 92; refine (sailingId_is _ _).mono ?_; rintro e w' ⟨rfl, hw'⟩; have hw' := hw'.symm; subst hw') | (go_at_call 93; refine (unlikeNames_is _ _ _ hfr hto).mono ?_; rintro e w' ⟨rfl, hw'⟩; have hw' := hw'.symm; subst hw') | (go_at_call 69; refine (within_is _ _ _ _).mono ?_; rintro e w' ⟨rfl, hw'⟩; have hw' := hw'.symm; subst hw'))
    go_ret
    exact ⟨says_no HN.out, hb0⟩
  have fg2 : decide (Unlike fr tt) = true := by exact decide_eq_true g2
  by_cases g3 : 0 ≤ d
  case neg =>
    have fg3 : decide (0 ≤ d) = false := by simpa using g3
    have HN : Hid (¬ GoodSail ⟨x, fr, tt, d, a, l1, l2, mo⟩) := fun h => g3 h.2.2.2.2.1
    clear g1 g2 g3
    go_enter Tryd.func54, Tryd.ntmps54
    go_wp2_with (first | (go_at_call 92; refine (sailingId_is _ _).mono ?_; rintro e w' ⟨rfl, hw'⟩; have hw' := hw'.symm; subst hw') | (go_at_call 93; refine (unlikeNames_is _ _ _ hfr hto).mono ?_; rintro e w' ⟨rfl, hw'⟩; have hw' := hw'.symm; subst hw') | (go_at_call 69; refine (within_is _ _ _ _).mono ?_; rintro e w' ⟨rfl, hw'⟩; have hw' := hw'.symm; subst hw'))
    go_ret
    exact ⟨says_no HN.out, hb0⟩
  have fg3 : decide (0 ≤ d) = true := by simpa using g3
  by_cases g4 : d < a
  case neg =>
    have fg4 : decide (d < a) = false := by simpa using g4
    have HN : Hid (¬ GoodSail ⟨x, fr, tt, d, a, l1, l2, mo⟩) := fun h => g4 h.2.2.2.2.2.1
    clear g1 g2 g3 g4
    go_enter Tryd.func54, Tryd.ntmps54
    go_wp2_with (first | (go_at_call 92; refine (sailingId_is _ _).mono ?_; rintro e w' ⟨rfl, hw'⟩; have hw' := hw'.symm; subst hw') | (go_at_call 93; refine (unlikeNames_is _ _ _ hfr hto).mono ?_; rintro e w' ⟨rfl, hw'⟩; have hw' := hw'.symm; subst hw') | (go_at_call 69; refine (within_is _ _ _ _).mono ?_; rintro e w' ⟨rfl, hw'⟩; have hw' := hw'.symm; subst hw'))
    go_ret
    exact ⟨says_no HN.out, hb0⟩
  have fg4 : decide (d < a) = true := by simpa using g4
  by_cases g5 : a ≤ 10000
  case neg =>
    have fg5 : decide (a ≤ 10000) = false := by simpa using g5
    have HN : Hid (¬ GoodSail ⟨x, fr, tt, d, a, l1, l2, mo⟩) := fun h => g5 h.2.2.2.2.2.2.1
    clear g1 g2 g3 g4 g5
    go_enter Tryd.func54, Tryd.ntmps54
    go_wp2_with (first | (go_at_call 92; refine (sailingId_is _ _).mono ?_; rintro e w' ⟨rfl, hw'⟩; have hw' := hw'.symm; subst hw') | (go_at_call 93; refine (unlikeNames_is _ _ _ hfr hto).mono ?_; rintro e w' ⟨rfl, hw'⟩; have hw' := hw'.symm; subst hw') | (go_at_call 69; refine (within_is _ _ _ _).mono ?_; rintro e w' ⟨rfl, hw'⟩; have hw' := hw'.symm; subst hw'))
    go_ret
    exact ⟨says_no HN.out, hb0⟩
  have fg5 : decide (a ≤ 10000) = true := by simpa using g5
  have HG : Hid (In x 1 99 ∧ Unlike fr tt ∧ 0 ≤ d ∧ d < a ∧ a ≤ 10000) := ⟨g1, g2, g3, g4, g5⟩
  clear g1 g2 g3 g4 g5
  go_enter Tryd.func54, Tryd.ntmps54
  go_wp2_with (first | (go_at_call 92; refine (sailingId_is _ _).mono ?_; rintro e w' ⟨rfl, hw'⟩; have hw' := hw'.symm; subst hw') | (go_at_call 93; refine (unlikeNames_is _ _ _ hfr hto).mono ?_; rintro e w' ⟨rfl, hw'⟩; have hw' := hw'.symm; subst hw') | (go_at_call 69; refine (within_is _ _ _ _).mono ?_; rintro e w' ⟨rfl, hw'⟩; have hw' := hw'.symm; subst hw'))
  refine (goodLanes_any lo n c1 l1 _ E1.out hn (hx.below hb0)).mono ?_
  rintro e w1 ⟨⟨b1, rfl, i1⟩, hb1⟩
  have A1 := blk_below A0 hb1
  have hb2 := after hb0 hb1
  have I1 : Hid (b1 = true ↔ GoodPairs l1 4 1 5000 100 500) := i1
  clear i1 A0 hb0 hb1
  cases b1 with
  | false =>
    go_wp2
    go_ret
    exact ⟨says_no (fun h => by have := I1.out.2 h.2.2.2.2.2.2.2.1; cases this), hb2⟩
  | true =>
    have q6 := blk_cell A1 6 _ rfl
    go_wp2_with fail
    refine (goodCabins_any co m c2 l2 _ E2.out hm (hy.below hb2)).mono ?_
    rintro e w2 ⟨⟨b2, rfl, i2⟩, hb3⟩
    have A2 := blk_below A1 hb3
    have hb4 := after hb2 hb3
    have I2 : Hid (b2 = true ↔ GoodPairs l2 6 1 3 1 4) := i2
    clear i2 A1 hb2 hb3 q6
    cases b2 with
    | false =>
      go_wp2
      go_ret
      exact ⟨says_no (fun h => by have := I2.out.2 h.2.2.2.2.2.2.2.2.1; cases this), hb4⟩
    | true =>
      have q7 := blk_cell A2 7 _ rfl
      by_cases g8 : In mo 0 500
      · have f8 : decide (In mo 0 500) = true := decide_eq_true g8
        have H8 : Hid (In mo 0 500) := g8
        clear g8
        go_wp2_with (first | (go_at_call 92; refine (sailingId_is _ _).mono ?_; rintro e w' ⟨rfl, hw'⟩; have hw' := hw'.symm; subst hw') | (go_at_call 93; refine (unlikeNames_is _ _ _ hfr hto).mono ?_; rintro e w' ⟨rfl, hw'⟩; have hw' := hw'.symm; subst hw') | (go_at_call 69; refine (within_is _ _ _ _).mono ?_; rintro e w' ⟨rfl, hw'⟩; have hw' := hw'.symm; subst hw'))
        go_ret
        exact ⟨says_yes ⟨HG.out.1, HG.out.2.1.1, HG.out.2.1.2.1, HG.out.2.1.2.2, HG.out.2.2.1, HG.out.2.2.2.1, HG.out.2.2.2.2, I1.out.1 (by simp), I2.out.1 (by simp), H8.out⟩, hb4⟩
      · have f8 : decide (In mo 0 500) = false := decide_eq_false g8
        have H8 : Hid (¬ In mo 0 500) := g8
        clear g8
        go_wp2_with (first | (go_at_call 92; refine (sailingId_is _ _).mono ?_; rintro e w' ⟨rfl, hw'⟩; have hw' := hw'.symm; subst hw') | (go_at_call 93; refine (unlikeNames_is _ _ _ hfr hto).mono ?_; rintro e w' ⟨rfl, hw'⟩; have hw' := hw'.symm; subst hw') | (go_at_call 69; refine (within_is _ _ _ _).mono ?_; rintro e w' ⟨rfl, hw'⟩; have hw' := hw'.symm; subst hw'))
        go_ret
        exact ⟨says_no (fun h => H8.out h.2.2.2.2.2.2.2.2.2), hb4⟩

end Go.Proofs.YtfbooamjddnagaaDoor

namespace Go.Proofs.YtfbooamjddnagaaDoor
open Go.RowKit

def sailW : ByteArray := ⟨#[115, 97, 105, 108]⟩
/-- A sailing's words. -/
def sailP (s : Sail) : List ByteArray := [sailW, numT s.id, s.fr, s.dst, numT s.dep, numT s.arr, numT s.most, pairsT s.la, pairsT s.ca]
def sailT (s : Sail) : ByteArray := joinT spT (sailP s)
noncomputable def goodS (s : Sail) : Bool := by classical exact decide (GoodSail s)
theorem goodS_iff (s : Sail) : goodS s = true ↔ GoodSail s := by classical exact decide_eq_true_iff
/-- The text that is answered. -/
noncomputable def stext (s : Sail) : ByteArray := if goodS s = true then sailT s else ⟨#[]⟩
theorem stext_not {s : Sail} (h : ¬ GoodSail s) : stext s = ⟨#[]⟩ ∧ goodS s = false := by
  have h1 : goodS s = false := Bool.eq_false_iff.2 (fun e => h ((goodS_iff s).1 e))
  exact ⟨by unfold stext; rw [if_neg (by rw [h1]; decide)], h1⟩
theorem stext_yes {s : Sail} (h : GoodSail s) : stext s = sailT s ∧ goodS s = true := by
  have h1 : goodS s = true := (goodS_iff s).2 h
  exact ⟨by unfold stext; rw [if_pos h1], h1⟩
theorem small_la {s : Sail} (h : GoodSail s) : SmallP s.la := by
  unfold GoodSail GoodPairs at h
  obtain ⟨_, _, _, _, _, _, _, h1, _⟩ := h
  refine ⟨by omega, fun i hi => ?_⟩
  have := h1.2 i hi
  unfold In at *
  omega
theorem small_ca {s : Sail} (h : GoodSail s) : SmallP s.ca := by
  unfold GoodSail GoodPairs at h
  obtain ⟨_, _, _, _, _, _, _, _, h1, _⟩ := h
  refine ⟨by omega, fun i hi => ?_⟩
  have := h1.2 i hi
  unfold In at *
  omega
theorem sail_rng {s : Sail} (h : GoodSail s) : (0 ≤ s.id ∧ s.id ≤ 1000000) ∧ (0 ≤ s.dep ∧ s.dep ≤ 1000000) ∧ (0 ≤ s.arr ∧ s.arr ≤ 1000000) ∧ (0 ≤ s.most ∧ s.most ≤ 1000000) ∧ s.fr.size ≤ 12 ∧ s.dst.size ≤ 12 := by
  unfold GoodSail IsName In at h
  omega
theorem sailT_size {s : Sail} (h : GoodSail s) : (sailT s).size ≤ 20000 := by
  have r := sail_rng h
  have s1 := numT_size (n := s.id) (by omega) (by omega)
  have s2 := numT_size (n := s.dep) (by omega) (by omega)
  have s3 := numT_size (n := s.arr) (by omega) (by omega)
  have s4 := numT_size (n := s.most) (by omega) (by omega)
  have s5 := pairsT_size (small_la h)
  have s6 := pairsT_size (small_ca h)
  have key : ∀ (l : List ByteArray) (p : ByteArray), l ≠ [] → (joinT spT (l ++ [p])).size = (joinT spT l).size + 1 + p.size := fun l p hl => by
    rw [joinT_snoc spT p hl, ByteArray.size_append, ByteArray.size_append]
    show _ + (1 + _) = _
    omega
  unfold sailT sailP
  rw [show [sailW, numT s.id, s.fr, s.dst, numT s.dep, numT s.arr, numT s.most, pairsT s.la, pairsT s.ca] = ((((((([sailW] ++ [numT s.id]) ++ [s.fr]) ++ [s.dst]) ++ [numT s.dep]) ++ [numT s.arr]) ++ [numT s.most]) ++ [pairsT s.la]) ++ [pairsT s.ca] from rfl,
    key _ _ (by simp), key _ _ (by simp), key _ _ (by simp), key _ _ (by simp), key _ _ (by simp), key _ _ (by simp), key _ _ (by simp), key _ _ (by simp), joinT_one]
  have : sailW.size = 4 := rfl
  omega
/-- The word of a line that is a sailing lies in its table. -/
def LineAt (w : World) : Prop := w.cell? ⟨2, 2, none⟩ = some (.string sailW)
theorem LineAt.below {w w' : World} (h : LineAt w) (hb : Below w.heap.size w w') : LineAt w' := (hb.cell (World.block_lt_of_cell? w _ h)).trans h

set_option maxHeartbeats 1600000 in
set_option maxRecDepth 100000 in
theorem sailingTold_any (s : Sail) (lo co : Option Addr) (c1 c2 : Nat) (w : World) (hs : GoodSail s) (hx : PairsAt w lo s.la) (hy : PairsAt w co s.ca) (hP : PowAt w) (hL : LineAt w) :
    Calls Tryd.prog 55 #[.agg #[.int .i64 s.id, .string s.fr, .string s.dst, .int .i64 s.dep, .int .i64 s.arr, .slice lo s.la.n c1, .slice co s.ca.n c2, .int .i64 s.most]] w fun e w' => ∃ v, e = .returned v ∧ OwnT w' w.heap.size v (sailP s) ∧ Below w.heap.size w w' := by
  have HG : Hid (GoodSail s) := hs
  have HR : Hid _ := sail_rng hs
  have HXY : Hid (PairsAt w lo s.la ∧ PairsAt w co s.ca ∧ PowAt w) := ⟨hx, hy, hP⟩
  have hb0 : Below w.heap.size w (w.alloc (.cells #[.int .i64 s.id, .string s.fr, .string s.dst, .int .i64 s.dep, .int .i64 s.arr, .slice lo s.la.n c1, .slice co s.ca.n c2, .int .i64 s.most] 49)) := push (Below.refl _ _) _
  have b0 := heap_alloc_new w (.cells #[.int .i64 s.id, .string s.fr, .string s.dst, .int .i64 s.dep, .int .i64 s.arr, .slice lo s.la.n c1, .slice co s.ca.n c2, .int .i64 s.most] 49)
  have hL0 := hL.below hb0
  unfold LineAt at hL0
  clear hs hx hy hP hL
  go_enter Tryd.func55, Tryd.ntmps55
  go_upto_region 1 with fail
  generalize w.alloc (.cells #[.int .i64 s.id, .string s.fr, .string s.dst, .int .i64 s.dep, .int .i64 s.arr, .slice lo s.la.n c1, .slice co s.ca.n c2, .int .i64 s.most] 49) = W at hb0 b0 hL0 ⊢
  have HK : Hid (∀ w', Below W.heap.size W w' → w'.cell? ⟨2, 2, none⟩ = some (.string sailW) ∧ w'.cell? ⟨w.heap.size, 0, none⟩ = some (.int .i64 s.id) ∧ w'.cell? ⟨w.heap.size, 1, none⟩ = some (.string s.fr) ∧ w'.cell? ⟨w.heap.size, 2, none⟩ = some (.string s.dst) ∧ w'.cell? ⟨w.heap.size, 3, none⟩ = some (.int .i64 s.dep) ∧ w'.cell? ⟨w.heap.size, 4, none⟩ = some (.int .i64 s.arr) ∧ w'.cell? ⟨w.heap.size, 5, none⟩ = some (.slice lo s.la.n c1) ∧ w'.cell? ⟨w.heap.size, 6, none⟩ = some (.slice co s.ca.n c2) ∧ w'.cell? ⟨w.heap.size, 7, none⟩ = some (.int .i64 s.most)) := fun w' hb => by
    have b := blk_below b0 hb
    exact ⟨(hb.cell (World.block_lt_of_cell? W _ hL0)).trans hL0, blk_cell b 0 _ rfl, blk_cell b 1 _ rfl, blk_cell b 2 _ rfl, blk_cell b 3 _ rfl, blk_cell b 4 _ rfl, blk_cell b 5 _ rfl, blk_cell b 6 _ rfl, blk_cell b 7 _ rfl⟩
  have HI : Hid (∀ (n : Int) W', 0 ≤ n ∧ n ≤ 1000000 → Below W.heap.size W W' → Calls Tryd.prog 77 #[.int .i64 n] W' fun e w' => e = .returned (.string (numT n)) ∧ Below W.heap.size W w') := fun n W' hn hb =>
    (itoa_any n (by omega) (by omega) W' (HXY.out.2.2.below (after hb0 hb))).mono fun e w' ⟨h1, h2⟩ => ⟨h1, after hb h2⟩
  have HLA : Hid (∀ W', Below W.heap.size W W' → Calls Tryd.prog 96 #[.slice lo s.la.n c1, .func (.func 97) #[] #[]] W' fun e w' => e = .returned (.string (pairsT s.la)) ∧ Below W.heap.size W w') := fun W' hb =>
    (listLane_any lo c1 s.la W' (small_la HG.out) (HXY.out.1.below (after hb0 hb)) (HXY.out.2.2.below (after hb0 hb))).mono fun e w' ⟨h1, h2⟩ => ⟨h1, after hb h2⟩
  have HCA : Hid (∀ W', Below W.heap.size W W' → Calls Tryd.prog 98 #[.slice co s.ca.n c2, .func (.func 99) #[] #[]] W' fun e w' => e = .returned (.string (pairsT s.ca)) ∧ Below W.heap.size W w') := fun W' hb =>
    (listCabin_any co c2 s.ca W' (small_ca HG.out) (HXY.out.2.1.below (after hb0 hb)) (HXY.out.2.2.below (after hb0 hb))).mono fun e w' ⟨h1, h2⟩ => ⟨h1, after hb h2⟩
  obtain ⟨k0, k1, k2, k3, k4, k5, k6, k7, k8⟩ := HK.out W (Below.refl _ _)
  have HB0 : Hid (Below w.heap.size w W) := hb0
  clear b0 hL0 hb0
  go_region_held3 (fun w' => w'.cell? ⟨2, 2, none⟩ = some (.string sailW) ∧ w'.cell? ⟨w.heap.size, 0, none⟩ = some (.int .i64 s.id) ∧ w'.cell? ⟨w.heap.size, 1, none⟩ = some (.string s.fr) ∧ w'.cell? ⟨w.heap.size, 2, none⟩ = some (.string s.dst) ∧ w'.cell? ⟨w.heap.size, 3, none⟩ = some (.int .i64 s.dep) ∧ w'.cell? ⟨w.heap.size, 4, none⟩ = some (.int .i64 s.arr) ∧ w'.cell? ⟨w.heap.size, 5, none⟩ = some (.slice lo s.la.n c1) ∧ w'.cell? ⟨w.heap.size, 6, none⟩ = some (.slice co s.ca.n c2) ∧ w'.cell? ⟨w.heap.size, 7, none⟩ = some (.int .i64 s.most))
    (first | (refine HK.out _ ?_; first | exact push HB6.out _ | exact HB6.out | exact HB5.out | exact HB4.out | exact HB3.out | exact HB2.out | exact HB1.out | exact (Below.refl _ _).drew | exact Below.refl _ _))
    (first
      | (go_at_call 77; first
        | (with_reducible refine Calls.mono (HI.out s.id _ HR.out.1 ?_) ?_); (focus (first | exact (Below.refl _ _).drew | exact Below.refl _ _)); rintro e w1 ⟨rfl, hb1⟩; have HB1 : Hid (Below W.heap.size W w1) := hb1; clear hb1
        | (with_reducible refine Calls.mono (HI.out s.dep _ HR.out.2.1 HB1.out) ?_); rintro e w2 ⟨rfl, hb1⟩; have HB2 : Hid (Below W.heap.size W w2) := hb1; clear hb1
        | (with_reducible refine Calls.mono (HI.out s.arr _ HR.out.2.2.1 HB2.out) ?_); rintro e w3 ⟨rfl, hb1⟩; have HB3 : Hid (Below W.heap.size W w3) := hb1; clear hb1
        | (with_reducible refine Calls.mono (HI.out s.most _ HR.out.2.2.2.1 HB3.out) ?_); rintro e w4 ⟨rfl, hb1⟩; have HB4 : Hid (Below W.heap.size W w4) := hb1; clear hb1)
      | (go_at_call 96; (with_reducible refine Calls.mono (HLA.out _ HB4.out) ?_); rintro e w5 ⟨rfl, hb1⟩; have HB5 : Hid (Below W.heap.size W w5) := hb1; clear hb1)
      | (go_at_call 98; (with_reducible refine Calls.mono (HCA.out _ HB5.out) ?_); rintro e w6 ⟨rfl, hb1⟩; have HB6 : Hid (Below W.heap.size W w6) := hb1; clear hb1))
  go_wp2
  go_ret
  exact ⟨_, rfl, ⟨rfl, .inr ⟨w6.heap.size, 9, #[.string sailW, .string (numT s.id), .string s.fr, .string s.dst, .string (numT s.dep), .string (numT s.arr), .string (numT s.most), .string (pairsT s.la), .string (pairsT s.ca)], rfl, (after HB0.out HB6.out).size, heap_alloc_new w6 _, Nat.le_refl _, by unfold maxLen; omega, rfl, rfl⟩⟩, after HB0.out (push HB6.out _)⟩

set_option maxHeartbeats 1600000 in
set_option maxRecDepth 100000 in
theorem implSText_any (s : Sail) (lo co : Option Addr) (c1 c2 : Nat) (w : World) (hfr : s.fr.size ≤ 1000000000000000) (hto : s.dst.size ≤ 1000000000000000) (hn : s.la.n ≤ 1048576) (hm : s.ca.n ≤ 1048576) (hx : PairsAt w lo s.la) (hy : PairsAt w co s.ca) (hP : PowAt w) (hL : LineAt w) :
    Calls Tryd.prog 19 #[.agg #[.int .i64 s.id, .string s.fr, .string s.dst, .int .i64 s.dep, .int .i64 s.arr, .slice lo s.la.n c1, .slice co s.ca.n c2, .int .i64 s.most]] w fun e w' => e = .returned (.tuple #[.string (stext s), .bool (goodS s)]) ∧ Below w.heap.size w w' := by
  have HXY : Hid (PairsAt w lo s.la ∧ PairsAt w co s.ca ∧ PowAt w ∧ LineAt w) := ⟨hx, hy, hP, hL⟩
  have hb0 : Below w.heap.size w (w.alloc (.cells #[.int .i64 s.id, .string s.fr, .string s.dst, .int .i64 s.dep, .int .i64 s.arr, .slice lo s.la.n c1, .slice co s.ca.n c2, .int .i64 s.most] 49)) := push (Below.refl _ _) _
  have b0 := heap_alloc_new w (.cells #[.int .i64 s.id, .string s.fr, .string s.dst, .int .i64 s.dep, .int .i64 s.arr, .slice lo s.la.n c1, .slice co s.ca.n c2, .int .i64 s.most] 49)
  clear hx hy hP hL
  go_enter Tryd.func19, Tryd.ntmps19
  go_upto_region 1 with fail
  generalize w.alloc (.cells #[.int .i64 s.id, .string s.fr, .string s.dst, .int .i64 s.dep, .int .i64 s.arr, .slice lo s.la.n c1, .slice co s.ca.n c2, .int .i64 s.most] 49) = W at hb0 b0 ⊢
  have y0 := blk_cell b0 0 _ rfl
  have y1 := blk_cell b0 1 _ rfl
  have y2 := blk_cell b0 2 _ rfl
  have y3 := blk_cell b0 3 _ rfl
  have y4 := blk_cell b0 4 _ rfl
  have y5 := blk_cell b0 5 _ rfl
  have y6 := blk_cell b0 6 _ rfl
  have y7 := blk_cell b0 7 _ rfl
  go_wp2_with fail
  refine (implSailing_any _ _ _ _ _ _ _ _ _ _ _ _ s.la s.ca _ rfl rfl hfr hto hn hm (HXY.out.1.below hb0) (HXY.out.2.1.below hb0)).mono ?_
  rintro e w2 ⟨⟨q, rfl, hq⟩, hb2⟩
  have HQ : Hid (q = true ↔ GoodSail s) := hq
  have b2 := blk_below b0 hb2
  have hB2 := after hb0 hb2
  clear y0 y1 y2 y3 y4 y5 y6 y7 b0 hb0 hb2 hq
  cases q with
  | false =>
    have hno : ¬ GoodSail s := fun h => by have := HQ.out.2 h; cases this
    have HR : Hid (stext s = ⟨#[]⟩ ∧ goodS s = false) := stext_not hno
    clear hno
    go_wp2
    exact bodyPost_ret (v := .tuple #[.string ⟨#[]⟩, .bool false]) (by simp [results, Tryd.results19, go_sem]) rfl ⟨by rw [HR.out.1, HR.out.2], hB2⟩
  | true =>
    have HG : Hid (GoodSail s) := by first | exact HQ.out.1 rfl | exact HQ.out.1 trivial
    have HR : Hid (stext s = sailT s ∧ goodS s = true) := stext_yes HG.out
    have y0 := blk_cell b2 0 _ rfl
    have y1 := blk_cell b2 1 _ rfl
    have y2 := blk_cell b2 2 _ rfl
    have y3 := blk_cell b2 3 _ rfl
    have y4 := blk_cell b2 4 _ rfl
    have y5 := blk_cell b2 5 _ rfl
    have y6 := blk_cell b2 6 _ rfl
    have y7 := blk_cell b2 7 _ rfl
    go_wp2_with fail
    refine (sailingTold_any s lo co c1 c2 _ HG.out (HXY.out.1.below hB2) (HXY.out.2.1.below hB2) (HXY.out.2.2.1.below hB2) (HXY.out.2.2.2.below hB2)).mono ?_
    rintro e w4 ⟨v, rfl, ho4, hb4⟩
    have HO : Hid (OwnT w4 w2.heap.size v (sailP s)) := ho4
    clear y0 y1 y2 y3 y4 y5 y6 y7 ho4
    go_wp2_with fail
    refine (join_any spT (sailP s) v _ _ HO.out (by show 9 ≤ _; omega) (by have h1 := sailT_size HG.out; unfold sailT at h1; omega)).mono ?_
    rintro e w5 ⟨rfl, hb5⟩
    go_wp2
    exact bodyPost_ret (v := .tuple #[.string (sailT s), .bool true]) (by simp [results, Tryd.results19, go_sem, sailT]) rfl ⟨by rw [HR.out.1, HR.out.2], after (after hB2 hb4) hb5⟩

end Go.Proofs.YtfbooamjddnagaaDoor

namespace Go.Proofs.YtfbooamjddnagaaDoor
open Go.RowKit

/-- The word at a place, empty where there is none. -/
def wd (W : List ByteArray) (i : Nat) : ByteArray := W.getD i ⟨#[]⟩
/-- Pairs that are read off their parts. -/
noncomputable def prs (l : List ByteArray) : Pairs := ⟨l.length, fun i => numOf (cutA 47 (wd l i)), fun i => numOf (cutB 47 (wd l i))⟩
/-- The parts of a list's text. -/
def PRd (s : ByteArray) (l : List ByteArray) : Prop := l.length ≤ s.size + 1 ∧ ((s = ⟨#[45]⟩ ∧ l = []) ∨ (s ≠ ⟨#[45]⟩ ∧ Parts 44 s l))
noncomputable def readS (W la lc : List ByteArray) : Sail := ⟨numOf (wd W 1), wd W 2, wd W 3, numOf (wd W 4), numOf (wd W 5), prs la, prs lc, numOf (wd W 6)⟩
def SameP (p q : Pairs) : Prop := p.n = q.n ∧ ∀ i, i < q.n → p.A i = q.A i ∧ p.B i = q.B i
structure SameSail (x y : Sail) : Prop where
  id : x.id = y.id
  fr : x.fr = y.fr
  dst : x.dst = y.dst
  dep : x.dep = y.dep
  arr : x.arr = y.arr
  most : x.most = y.most
  la : SameP x.la y.la
  ca : SameP x.ca y.ca
theorem SameP.symm {p q : Pairs} (h : SameP p q) : SameP q p := ⟨h.1.symm, fun i hi => by have := h.2 i (by rw [← h.1]; exact hi); exact ⟨this.1.symm, this.2.symm⟩⟩
theorem SameP.trans {p q r : Pairs} (h : SameP p q) (k : SameP q r) : SameP p r := ⟨h.1.trans k.1, fun i hi => by have h1 := h.2 i (by rw [k.1]; exact hi); have h2 := k.2 i hi; exact ⟨h1.1.trans h2.1, h1.2.trans h2.2⟩⟩
theorem SameSail.symm {x y : Sail} (h : SameSail x y) : SameSail y x := ⟨h.id.symm, h.fr.symm, h.dst.symm, h.dep.symm, h.arr.symm, h.most.symm, h.la.symm, h.ca.symm⟩
theorem SameSail.trans {x y z : Sail} (h : SameSail x y) (k : SameSail y z) : SameSail x z := ⟨h.id.trans k.id, h.fr.trans k.fr, h.dst.trans k.dst, h.dep.trans k.dep, h.arr.trans k.arr, h.most.trans k.most, h.la.trans k.la, h.ca.trans k.ca⟩
theorem SameP.good {p q : Pairs} {m : Nat} {a b c d : Int} (h : SameP p q) (k : GoodPairs q m a b c d) : GoodPairs p m a b c d := ⟨by rw [h.1]; exact k.1, fun i hi => by
  rw [h.1] at hi
  rw [(h.2 i hi).1, (h.2 i hi).2]
  exact k.2 i hi⟩
theorem SameP.text {p q : Pairs} (h : SameP p q) : pairsT p = pairsT q := by
  unfold pairsT
  rw [h.1]
  have e : (List.range q.n).map (fun i => pairT (p.A i) (p.B i)) = (List.range q.n).map (fun i => pairT (q.A i) (q.B i)) := List.map_congr_left fun i hi => by
    have := h.2 i (List.mem_range.1 hi)
    rw [this.1, this.2]
  rw [e]
theorem same_good {x z : Sail} (h : SameSail x z) (k : GoodSail z) : GoodSail x ∧ sailT x = sailT z := by
  constructor
  · obtain ⟨k1, k2, k3, k4, k5, k6, k7, k8, k9, k10⟩ := k
    exact ⟨by rw [h.id]; exact k1, by rw [h.fr]; exact k2, by rw [h.dst]; exact k3, by rw [h.fr, h.dst]; exact k4, by rw [h.dep]; exact k5, by rw [h.dep, h.arr]; exact k6, by rw [h.arr]; exact k7, h.la.good k8, h.ca.good k9, by rw [h.most]; exact k10⟩
  · unfold sailT sailP
    rw [h.id, h.fr, h.dst, h.dep, h.arr, h.most, h.la.text, h.ca.text]
theorem pair_back {a b : Int} (ha : In a 0 99999) (hb : In b 0 99999) : numOf (cutA 47 (pairT a b)) = a ∧ numOf (cutB 47 (pairT a b)) = b := by
  obtain ⟨k1, k2, _⟩ := cut_of (cut_at (p := 47) (s := pairT a b) (a := numT a) (b := numT b) (free_num nd47 ha.1) (by unfold pairT; rw [ByteArray.append_assoc]))
  rw [k1, k2]
  exact ⟨numOf_text ha, numOf_text hb⟩
theorem free_pair {q : UInt8} (h0 : ¬ Digit q) (h1 : q ≠ 47) {a b : Int} (ha : 0 ≤ a) (hb : 0 ≤ b) : Free q (pairT a b) := free_app (free_app (free_num h0 ha) (free_one h1)) (free_num h0 hb)
def Small9 (p : Pairs) : Prop := ∀ i, i < p.n → In (p.A i) 0 99999 ∧ In (p.B i) 0 99999
theorem parts_pairs {p : Pairs} (hn : 0 < p.n) (h : Small9 p) : Parts 44 (joinT coT ((List.range p.n).map (fun i => pairT (p.A i) (p.B i)))) ((List.range p.n).map (fun i => pairT (p.A i) (p.B i))) := by
  refine ⟨by intro e; have := congrArg List.length e; simp at this; omega, rfl, fun q hq => ?_⟩
  obtain ⟨i, hi, rfl⟩ := List.mem_map.1 hq
  have := h i (by simpa using hi)
  exact free_pair nd44 (by decide) this.1.1 this.2.1
theorem pairs_not {p : Pairs} (hn : 0 < p.n) (h : Small9 p) : joinT coT ((List.range p.n).map (fun i => pairT (p.A i) (p.B i))) ≠ ⟨#[45]⟩ := fun e => by
  have hp := parts_pairs hn h
  rw [e] at hp
  have hq : Parts 44 ⟨#[45]⟩ [⟨#[45]⟩] := ⟨by simp, joinT_one _ _, fun q hq => by simp at hq; rw [hq]; simp⟩
  have e2 := parts_one hp hq
  have h0 : ((List.range p.n).map (fun i => pairT (p.A i) (p.B i)))[0]? = some (pairT (p.A 0) (p.B 0)) := by
    rw [List.getElem?_map, List.getElem?_range hn]
    rfl
  rw [e2] at h0
  have e3 : (⟨#[45]⟩ : ByteArray) = pairT (p.A 0) (p.B 0) := by simpa using h0
  have : Free 45 (pairT (p.A 0) (p.B 0)) := free_pair (by unfold Digit; decide) (by decide) (h 0 hn).1.1 (h 0 hn).2.1
  rw [← e3] at this
  exact this (by simp)
/-- The parts of the pairs' text. -/
def partsP (p : Pairs) : List ByteArray := (List.range p.n).map (fun i => pairT (p.A i) (p.B i))
theorem prd_self {p : Pairs} (h : Small9 p) (hl : p.n ≤ (pairsT p).size + 1) : PRd (pairsT p) (partsP p) := by
  refine ⟨by unfold partsP; simpa using hl, ?_⟩
  by_cases c : p.n = 0
  · refine .inl ⟨by unfold pairsT; rw [if_pos c], by unfold partsP; rw [c]; rfl⟩
  · have e : pairsT p = joinT coT (partsP p) := by unfold pairsT; rw [if_neg c]; rfl
    rw [e]
    exact .inr ⟨pairs_not (by omega) h, parts_pairs (by omega) h⟩
theorem prd_back {p : Pairs} {l : List ByteArray} (h : Small9 p) (hr : PRd (pairsT p) l) : SameP (prs l) p := by
  by_cases c : p.n = 0
  · have e : pairsT p = ⟨#[45]⟩ := by unfold pairsT; rw [if_pos c]
    rcases hr.2 with ⟨_, rfl⟩ | ⟨n, _⟩
    · exact ⟨c.symm, fun i hi => by omega⟩
    · exact absurd e n
  · have e : pairsT p = joinT coT (partsP p) := by unfold pairsT; rw [if_neg c]; rfl
    rw [e] at hr
    rcases hr.2 with ⟨e2, _⟩ | ⟨_, hl⟩
    · exact absurd e2 (pairs_not (by omega) h)
    · have e2 := parts_one hl (parts_pairs (by omega) h)
      subst e2
      refine ⟨by simp [prs], fun i hi => ?_⟩
      have ew : wd ((List.range p.n).map (fun i => pairT (p.A i) (p.B i))) i = pairT (p.A i) (p.B i) := by
        unfold wd
        rw [List.getD_eq_getElem?_getD, List.getElem?_map, List.getElem?_range hi]
        rfl
      unfold prs
      dsimp only
      rw [ew]
      exact pair_back (h i hi).1 (h i hi).2
theorem good_9 {s : Sail} (h : GoodSail s) : Small9 s.la ∧ Small9 s.ca := by
  obtain ⟨_, _, _, _, _, _, _, h1, h2, _⟩ := h
  constructor
  · intro i hi
    have := h1.2 i hi
    unfold In at *
    omega
  · intro i hi
    have := h2.2 i hi
    unfold In at *
    omega
theorem free_pairs {q : UInt8} (h0 : ¬ Digit q) (h1 : q ≠ 47) (h2 : q ≠ 44) (h3 : q ≠ 45) {p : Pairs} (h : Small9 p) : Free q (pairsT p) := by
  unfold pairsT
  split
  · exact free_one h3
  · exact free_join (q := 44) h2 _ (fun x hx => by
      obtain ⟨i, hi, rfl⟩ := List.mem_map.1 hx
      have := h i (by simpa using hi)
      exact free_pair h0 h1 this.1.1 this.2.1)
theorem parts_sail {s : Sail} (h : GoodSail s) : Parts 32 (sailT s) (sailP s) := by
  refine ⟨by simp [sailP], rfl, fun p hp => ?_⟩
  have r := sail_rng h
  have n9 := good_9 h
  have n1 : Free 32 s.fr := free_name h.2.1 (by unfold Letter; decide)
  have n2 : Free 32 s.dst := free_name h.2.2.1 (by unfold Letter; decide)
  unfold sailP at hp
  simp only [List.mem_cons, List.not_mem_nil, or_false] at hp
  rcases hp with rfl | rfl | rfl | rfl | rfl | rfl | rfl | rfl | rfl
  · unfold sailW; decide
  · exact free_num nd32 r.1.1
  · exact n1
  · exact n2
  · exact free_num nd32 r.2.1.1
  · exact free_num nd32 r.2.2.1.1
  · exact free_num nd32 r.2.2.2.1.1
  · exact free_pairs nd32 (by decide) (by decide) (by decide) n9.1
  · exact free_pairs nd32 (by decide) (by decide) (by decide) n9.2
theorem sail_back {z : Sail} (h : GoodSail z) {W la lc : List ByteArray} (hW : Parts 32 (sailT z) W) (ha : PRd (wd W 7) la) (hc : PRd (wd W 8) lc) : SameSail (readS W la lc) z := by
  obtain rfl := parts_one hW (parts_sail h)
  have n9 := good_9 h
  have k := h
  unfold GoodSail In at k
  have ha' : PRd (pairsT z.la) la := ha
  have hc' : PRd (pairsT z.ca) lc := hc
  refine ⟨?_, rfl, rfl, ?_, ?_, ?_, prd_back n9.1 ha', prd_back n9.2 hc'⟩
  · show numOf (numT z.id) = z.id
    exact numOf_text ⟨by omega, by omega⟩
  · show numOf (numT z.dep) = z.dep
    exact numOf_text ⟨by omega, by omega⟩
  · show numOf (numT z.arr) = z.arr
    exact numOf_text ⟨by omega, by omega⟩
  · show numOf (numT z.most) = z.most
    exact numOf_text ⟨by omega, by omega⟩
theorem join_size (l : List ByteArray) : (joinT (oneT 44) l).size = (Lib.join (l.map (·.data.toList)) [44]).length := by
  unfold joinT oneT
  simp [ByteArray.size]
theorem join_len : ∀ l : List ByteArray, l.length ≤ (joinT (oneT 44) l).size + 1
  | [] => by simp
  | [a] => by simp
  | a :: b :: r => by
    have ih := join_len (b :: r)
    rw [join_size] at ih ⊢
    simp only [List.map_cons] at ih ⊢
    rw [join_two]
    simp at ih ⊢
    omega
theorem prd_len {s : ByteArray} {l : List ByteArray} (h : Parts 44 s l) : l.length ≤ s.size + 1 := by
  rw [← h.2.1]
  exact join_len l
theorem sails_one {y z : Sail} (hy : GoodSail y) (hz : GoodSail z) (e : sailT y = sailT z) : SameSail y z := by
  have n9 := good_9 hy
  have hl : ∀ p : Pairs, Small9 p → p.n ≤ (pairsT p).size + 1 := fun p hp => by
    by_cases c : p.n = 0
    · omega
    · have h1 := prd_len (parts_pairs (p := p) (by omega) hp)
      have e : pairsT p = joinT coT (partsP p) := by unfold pairsT; rw [if_neg c]; rfl
      rw [e]
      simpa [partsP] using h1
  have ha : PRd (wd (sailP y) 7) (partsP y.la) := prd_self n9.1 (hl _ n9.1)
  have hc : PRd (wd (sailP y) 8) (partsP y.ca) := prd_self n9.2 (hl _ n9.2)
  exact (sail_back hy (parts_sail hy) ha hc).symm.trans (sail_back hz (by rw [← e]; exact parts_sail hy) ha hc)
/-- y and ok are the answer of a reader of s. -/
def AnsS (s : ByteArray) (y : Sail) (ok : Bool) : Prop := (ok = true ∧ GoodSail y ∧ sailT y = s) ∨ (ok = false ∧ y = Sail.zero ∧ ∀ z, GoodSail z → sailT z ≠ s)
theorem ans_same {s : ByteArray} {y z : Sail} {a b : Bool} (h : AnsS s y a) (k : AnsS s z b) : a = b ∧ SameSail y z := by
  rcases h with ⟨rfl, h1, h2⟩ | ⟨rfl, rfl, h1⟩
  · rcases k with ⟨rfl, k1, k2⟩ | ⟨rfl, rfl, k1⟩
    · exact ⟨rfl, sails_one h1 k1 (h2.trans k2.symm)⟩
    · exact absurd h2 (k1 _ h1)
  · rcases k with ⟨rfl, k1, k2⟩ | ⟨rfl, rfl, k1⟩
    · exact absurd k2 (h1 _ k1)
    · exact ⟨rfl, rfl, rfl, rfl, rfl, rfl, rfl, ⟨rfl, fun _ _ => ⟨rfl, rfl⟩⟩, ⟨rfl, fun _ _ => ⟨rfl, rfl⟩⟩⟩
theorem ans_few {s : ByteArray} {y : Sail} {a : Bool} (h : AnsS s y a) : y.la.n ≤ 6 ∧ y.ca.n ≤ 6 ∧ y.fr.size ≤ 12 ∧ y.dst.size ≤ 12 := by
  rcases h with ⟨_, h1, _⟩ | ⟨_, rfl, _⟩
  · exact ⟨(small_la h1).1, (small_ca h1).1, (sail_rng h1).2.2.2.2.1, (sail_rng h1).2.2.2.2.2⟩
  · exact ⟨Nat.zero_le _, Nat.zero_le _, Nat.zero_le _, Nat.zero_le _⟩
/-- What was read and is no text's own: no good sailing has that text. -/
theorem ans_not {s : ByteArray} {W la lc : List ByteArray} (hW : Parts 32 s W) (ha : PRd (wd W 7) la) (hc : PRd (wd W 8) lc) (hn : ¬ (GoodSail (readS W la lc) ∧ sailT (readS W la lc) = s)) : AnsS s Sail.zero false :=
  .inr ⟨rfl, rfl, fun z hz e => by
    have h := same_good (sail_back hz (by rw [e]; exact hW) ha hc) hz
    exact hn ⟨h.1, h.2.trans e⟩⟩
theorem ans_short {s : ByteArray} {W : List ByteArray} (hW : Parts 32 s W) (h9 : W.length ≠ 9) : AnsS s Sail.zero false :=
  .inr ⟨rfl, rfl, fun z hz e => by
    have h := parts_one hW (by rw [← e]; exact parts_sail hz)
    rw [h] at h9
    exact h9 rfl⟩

end Go.Proofs.YtfbooamjddnagaaDoor

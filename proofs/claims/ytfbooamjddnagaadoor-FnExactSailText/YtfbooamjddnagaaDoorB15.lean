/-
  OWN TEXT: ImplS3, SailI.
-/
import Derived.Deep.RegionHeld3
import Derived.Test.YtfbooamjddnagaaDoorB14
import Derived.Test.YtfbooamjddnagaaDoorB11
namespace Go.Proofs.YtfbooamjddnagaaDoor
open Go.RowKit

set_option maxHeartbeats 1600000 in
set_option maxRecDepth 100000 in
theorem implSailing_any (x d a mo : Int) (fr tt : ByteArray) (lo co : Option Addr) (n m c1 c2 : Nat) (l1 l2 : Pairs) (w : World) (e1 : l1.n = n) (e2 : l2.n = m) (hfr : fr.size ≤ 1000000000000000) (hto : tt.size ≤ 1000000000000000) (hn : n ≤ 1048576) (hm : m ≤ 1048576) (hx : PairsAt w lo l1) (hy : PairsAt w co l2) :
    Calls Tryd.prog 54 #[.agg #[.int .i64 x, .string fr, .string tt, .int .i64 d, .int .i64 a, .slice lo n c1, .slice co m c2, .int .i64 mo]] w fun e w' => SaysIf (GoodSail ⟨x, fr, tt, d, a, l1, l2, mo⟩) e ∧ Below w.heap.size w w' := by
  have hb0 : Below w.heap.size w (w.alloc (.cells #[.int .i64 x, .string fr, .string tt, .int .i64 d, .int .i64 a, .slice lo n c1, .slice co m c2, .int .i64 mo] 49)) := push (Below.refl _ _) _
  have A0 := heap_alloc_new w (.cells #[.int .i64 x, .string fr, .string tt, .int .i64 d, .int .i64 a, .slice lo n c1, .slice co m c2, .int .i64 mo] 49)
  have E1 : Hid (l1.n = n) := e1
  have E2 : Hid (l2.n = m) := e2
  clear e1 e2
  by_cases g1 : In x 1 99
  case neg =>
    have fg1 : decide (In x 1 99) = false := by exact decide_eq_false g1
    have HN : Hid (¬ GoodSail ⟨x, fr, tt, d, a, l1, l2, mo⟩) := fun h => g1 h.1
    clear g1
    go_enter Tryd.func54, Tryd.ntmps54
    go_wp2_with (first | (go_at_call 92; refine (sailingId_is _ _).mono ?_; rintro e w' ⟨rfl, hw'⟩; have hw' := hw'.symm; subst hw') | (go_at_call 93; refine (unlikeNames_is _ _ _ hfr hto).mono ?_; rintro e w' ⟨rfl, hw'⟩; have hw' := hw'.symm; subst hw') | (go_at_call 69; refine (within_is _ _ _ _).mono ?_; rintro e w' ⟨rfl, hw'⟩; have hw' := hw'.symm; subst hw'))
    go_ret
    exact ⟨says_no HN.out, hb0⟩
  have fg1 : decide (In x 1 99) = true := by exact decide_eq_true g1
  by_cases g2 : Unlike fr tt
  case neg =>
    have fg2 : decide (Unlike fr tt) = false := by exact decide_eq_false g2
    have HN : Hid (¬ GoodSail ⟨x, fr, tt, d, a, l1, l2, mo⟩) := fun h => g2 ⟨h.2.1, h.2.2.1, h.2.2.2.1⟩
    clear g1 g2
    go_enter Tryd.func54, Tryd.ntmps54
    go_wp2_with (first | (go_at_call 92; refine (sailingId_is _ _).mono ?_; rintro e w' ⟨rfl, hw'⟩; have hw' := hw'.symm; subst hw') | (go_at_call 93; refine (unlikeNames_is _ _ _ hfr hto).mono ?_; rintro e w' ⟨rfl, hw'⟩; have hw' := hw'.symm; subst hw') | (go_at_call 69; refine (within_is _ _ _ _).mono ?_; rintro e w' ⟨rfl, hw'⟩; have hw' := hw'.symm; subst hw'))
    go_ret
    exact ⟨says_no HN.out, hb0⟩
  have fg2 : decide (Unlike fr tt) = true := by exact decide_eq_true g2
  by_cases g3 : 0 ≤ d
  case neg =>
    have fg3 : decide (0 ≤ d) = false := by simpa using g3
    have HN : Hid (¬ GoodSail ⟨x, fr, tt, d, a, l1, l2, mo⟩) := fun h => g3 h.2.2.2.2.1
    clear g1 g2 g3
    go_enter Tryd.func54, Tryd.ntmps54
    go_wp2_with (first | (go_at_call 92; refine (sailingId_is _ _).mono ?_; rintro e w' ⟨rfl, hw'⟩; have hw' := hw'.symm; subst hw') | (go_at_call 93; refine (unlikeNames_is _ _ _ hfr hto).mono ?_; rintro e w' ⟨rfl, hw'⟩; have hw' := hw'.symm; subst hw') | (go_at_call 69; refine (within_is _ _ _ _).mono ?_; rintro e w' ⟨rfl, hw'⟩; have hw' := hw'.symm; subst hw'))
    go_ret
    exact ⟨says_no HN.out, hb0⟩
  have fg3 : decide (0 ≤ d) = true := by simpa using g3
  by_cases g4 : d < a
  case neg =>
    have fg4 : decide (d < a) = false := by simpa using g4
    have HN : Hid (¬ GoodSail ⟨x, fr, tt, d, a, l1, l2, mo⟩) := fun h => g4 h.2.2.2.2.2.1
    clear g1 g2 g3 g4
    go_enter Tryd.func54, Tryd.ntmps54
    go_wp2_with (first | (go_at_call 92; refine (sailingId_is _ _).mono ?_; rintro e w' ⟨rfl, hw'⟩; have hw' := hw'.symm; subst hw') | (go_at_call 93; refine (unlikeNames_is _ _ _ hfr hto).mono ?_; rintro e w' ⟨rfl, hw'⟩; have hw' := hw'.symm; subst hw') | (go_at_call 69; refine (within_is _ _ _ _).mono ?_; rintro e w' ⟨rfl, hw'⟩; have hw' := hw'.symm; subst hw'))
    go_ret
    exact ⟨says_no HN.out, hb0⟩
  have fg4 : decide (d < a) = true := by simpa using g4
  by_cases g5 : a ≤ 10000
  case neg =>
    have fg5 : decide (a ≤ 10000) = false := by simpa using g5
    have HN : Hid (¬ GoodSail ⟨x, fr, tt, d, a, l1, l2, mo⟩) := fun h => g5 h.2.2.2.2.2.2.1
    clear g1 g2 g3 g4 g5
    go_enter Tryd.func54, Tryd.ntmps54
    go_wp2_with (first | (go_at_call 92; refine (sailingId_is _ _).mono ?_; rintro e w' ⟨rfl, hw'⟩; have hw' := hw'.symm; subst hw') | (go_at_call 93; refine (unlikeNames_is _ _ _ hfr hto).mono ?_; rintro e w' ⟨rfl, hw'⟩; have hw' := hw'.symm; subst hw') | (go_at_call 69; refine (within_is _ _ _ _).mono ?_; rintro e w' ⟨rfl, hw'⟩; have hw' := hw'.symm; subst hw'))
    go_ret
    exact ⟨says_no HN.out, hb0⟩
  have fg5 : decide (a ≤ 10000) = true := by simpa using g5
  have HG : Hid (In x 1 99 ∧ Unlike fr tt ∧ 0 ≤ d ∧ d < a ∧ a ≤ 10000) := ⟨g1, g2, g3, g4, g5⟩
  clear g1 g2 g3 g4 g5
  go_enter Tryd.func54, Tryd.ntmps54
  go_wp2_with (first | (go_at_call 92; refine (sailingId_is _ _).mono ?_; rintro e w' ⟨rfl, hw'⟩; have hw' := hw'.symm; subst hw') | (go_at_call 93; refine (unlikeNames_is _ _ _ hfr hto).mono ?_; rintro e w' ⟨rfl, hw'⟩; have hw' := hw'.symm; subst hw') | (go_at_call 69; refine (within_is _ _ _ _).mono ?_; rintro e w' ⟨rfl, hw'⟩; have hw' := hw'.symm; subst hw'))
  refine (goodLanes_any lo n c1 l1 _ E1.out hn (hx.below hb0)).mono ?_
  rintro e w1 ⟨⟨b1, rfl, i1⟩, hb1⟩
  have A1 := blk_below A0 hb1
  have hb2 := after hb0 hb1
  have I1 : Hid (b1 = true ↔ GoodPairs l1 4 1 5000 100 500) := i1
  clear i1 A0 hb0 hb1
  cases b1 with
  | false =>
    go_wp2
    go_ret
    exact ⟨says_no (fun h => by have := I1.out.2 h.2.2.2.2.2.2.2.1; cases this), hb2⟩
  | true =>
    have q6 := blk_cell A1 6 _ rfl
    go_wp2_with fail
    refine (goodCabins_any co m c2 l2 _ E2.out hm (hy.below hb2)).mono ?_
    rintro e w2 ⟨⟨b2, rfl, i2⟩, hb3⟩
    have A2 := blk_below A1 hb3
    have hb4 := after hb2 hb3
    have I2 : Hid (b2 = true ↔ GoodPairs l2 6 1 3 1 4) := i2
    clear i2 A1 hb2 hb3 q6
    cases b2 with
    | false =>
      go_wp2
      go_ret
      exact ⟨says_no (fun h => by have := I2.out.2 h.2.2.2.2.2.2.2.2.1; cases this), hb4⟩
    | true =>
      have q7 := blk_cell A2 7 _ rfl
      by_cases g8 : In mo 0 500
      · have f8 : decide (In mo 0 500) = true := decide_eq_true g8
        have H8 : Hid (In mo 0 500) := g8
        clear g8
        go_wp2_with (first | (go_at_call 92; refine (sailingId_is _ _).mono ?_; rintro e w' ⟨rfl, hw'⟩; have hw' := hw'.symm; subst hw') | (go_at_call 93; refine (unlikeNames_is _ _ _ hfr hto).mono ?_; rintro e w' ⟨rfl, hw'⟩; have hw' := hw'.symm; subst hw') | (go_at_call 69; refine (within_is _ _ _ _).mono ?_; rintro e w' ⟨rfl, hw'⟩; have hw' := hw'.symm; subst hw'))
        go_ret
        exact ⟨says_yes ⟨HG.out.1, HG.out.2.1.1, HG.out.2.1.2.1, HG.out.2.1.2.2, HG.out.2.2.1, HG.out.2.2.2.1, HG.out.2.2.2.2, I1.out.1 (by simp), I2.out.1 (by simp), H8.out⟩, hb4⟩
      · have f8 : decide (In mo 0 500) = false := decide_eq_false g8
        have H8 : Hid (¬ In mo 0 500) := g8
        clear g8
        go_wp2_with (first | (go_at_call 92; refine (sailingId_is _ _).mono ?_; rintro e w' ⟨rfl, hw'⟩; have hw' := hw'.symm; subst hw') | (go_at_call 93; refine (unlikeNames_is _ _ _ hfr hto).mono ?_; rintro e w' ⟨rfl, hw'⟩; have hw' := hw'.symm; subst hw') | (go_at_call 69; refine (within_is _ _ _ _).mono ?_; rintro e w' ⟨rfl, hw'⟩; have hw' := hw'.symm; subst hw'))
        go_ret
        exact ⟨says_no (fun h => H8.out h.2.2.2.2.2.2.2.2.2), hb4⟩

end Go.Proofs.YtfbooamjddnagaaDoor

namespace Go.Proofs.YtfbooamjddnagaaDoor
open Go.RowKit

def sailW : ByteArray := ⟨#[115, 97, 105, 108]⟩
/-- A sailing's words. -/
def sailP (s : Sail) : List ByteArray := [sailW, numT s.id, s.fr, s.dst, numT s.dep, numT s.arr, numT s.most, pairsT s.la, pairsT s.ca]
def sailT (s : Sail) : ByteArray := joinT spT (sailP s)
noncomputable def goodS (s : Sail) : Bool := by classical exact decide (GoodSail s)
theorem goodS_iff (s : Sail) : goodS s = true ↔ GoodSail s := by classical exact decide_eq_true_iff
/-- The text that is answered. -/
noncomputable def stext (s : Sail) : ByteArray := if goodS s = true then sailT s else ⟨#[]⟩
theorem stext_not {s : Sail} (h : ¬ GoodSail s) : stext s = ⟨#[]⟩ ∧ goodS s = false := by
  have h1 : goodS s = false := Bool.eq_false_iff.2 (fun e => h ((goodS_iff s).1 e))
  exact ⟨by unfold stext; rw [if_neg (by rw [h1]; decide)], h1⟩
theorem stext_yes {s : Sail} (h : GoodSail s) : stext s = sailT s ∧ goodS s = true := by
  have h1 : goodS s = true := (goodS_iff s).2 h
  exact ⟨by unfold stext; rw [if_pos h1], h1⟩
theorem small_la {s : Sail} (h : GoodSail s) : SmallP s.la := by
  unfold GoodSail GoodPairs at h
  obtain ⟨_, _, _, _, _, _, _, h1, _⟩ := h
  refine ⟨by omega, fun i hi => ?_⟩
  have := h1.2 i hi
  unfold In at *
  omega
theorem small_ca {s : Sail} (h : GoodSail s) : SmallP s.ca := by
  unfold GoodSail GoodPairs at h
  obtain ⟨_, _, _, _, _, _, _, _, h1, _⟩ := h
  refine ⟨by omega, fun i hi => ?_⟩
  have := h1.2 i hi
  unfold In at *
  omega
theorem sail_rng {s : Sail} (h : GoodSail s) : (0 ≤ s.id ∧ s.id ≤ 1000000) ∧ (0 ≤ s.dep ∧ s.dep ≤ 1000000) ∧ (0 ≤ s.arr ∧ s.arr ≤ 1000000) ∧ (0 ≤ s.most ∧ s.most ≤ 1000000) ∧ s.fr.size ≤ 12 ∧ s.dst.size ≤ 12 := by
  unfold GoodSail IsName In at h
  omega
theorem sailT_size {s : Sail} (h : GoodSail s) : (sailT s).size ≤ 20000 := by
  have r := sail_rng h
  have s1 := numT_size (n := s.id) (by omega) (by omega)
  have s2 := numT_size (n := s.dep) (by omega) (by omega)
  have s3 := numT_size (n := s.arr) (by omega) (by omega)
  have s4 := numT_size (n := s.most) (by omega) (by omega)
  have s5 := pairsT_size (small_la h)
  have s6 := pairsT_size (small_ca h)
  have key : ∀ (l : List ByteArray) (p : ByteArray), l ≠ [] → (joinT spT (l ++ [p])).size = (joinT spT l).size + 1 + p.size := fun l p hl => by
    rw [joinT_snoc spT p hl, ByteArray.size_append, ByteArray.size_append]
    show _ + (1 + _) = _
    omega
  unfold sailT sailP
  rw [show [sailW, numT s.id, s.fr, s.dst, numT s.dep, numT s.arr, numT s.most, pairsT s.la, pairsT s.ca] = ((((((([sailW] ++ [numT s.id]) ++ [s.fr]) ++ [s.dst]) ++ [numT s.dep]) ++ [numT s.arr]) ++ [numT s.most]) ++ [pairsT s.la]) ++ [pairsT s.ca] from rfl,
    key _ _ (by simp), key _ _ (by simp), key _ _ (by simp), key _ _ (by simp), key _ _ (by simp), key _ _ (by simp), key _ _ (by simp), key _ _ (by simp), joinT_one]
  have : sailW.size = 4 := rfl
  omega
/-- The word of a line that is a sailing lies in its table. -/
def LineAt (w : World) : Prop := w.cell? ⟨2, 2, none⟩ = some (.string sailW)
theorem LineAt.below {w w' : World} (h : LineAt w) (hb : Below w.heap.size w w') : LineAt w' := (hb.cell (World.block_lt_of_cell? w _ h)).trans h

set_option maxHeartbeats 1600000 in
set_option maxRecDepth 100000 in
theorem sailingTold_any (s : Sail) (lo co : Option Addr) (c1 c2 : Nat) (w : World) (hs : GoodSail s) (hx : PairsAt w lo s.la) (hy : PairsAt w co s.ca) (hP : PowAt w) (hL : LineAt w) :
    Calls Tryd.prog 55 #[.agg #[.int .i64 s.id, .string s.fr, .string s.dst, .int .i64 s.dep, .int .i64 s.arr, .slice lo s.la.n c1, .slice co s.ca.n c2, .int .i64 s.most]] w fun e w' => ∃ v, e = .returned v ∧ OwnT w' w.heap.size v (sailP s) ∧ Below w.heap.size w w' := by
  have HG : Hid (GoodSail s) := hs
  have HR : Hid _ := sail_rng hs
  have HXY : Hid (PairsAt w lo s.la ∧ PairsAt w co s.ca ∧ PowAt w) := ⟨hx, hy, hP⟩
  have hb0 : Below w.heap.size w (w.alloc (.cells #[.int .i64 s.id, .string s.fr, .string s.dst, .int .i64 s.dep, .int .i64 s.arr, .slice lo s.la.n c1, .slice co s.ca.n c2, .int .i64 s.most] 49)) := push (Below.refl _ _) _
  have b0 := heap_alloc_new w (.cells #[.int .i64 s.id, .string s.fr, .string s.dst, .int .i64 s.dep, .int .i64 s.arr, .slice lo s.la.n c1, .slice co s.ca.n c2, .int .i64 s.most] 49)
  have hL0 := hL.below hb0
  unfold LineAt at hL0
  clear hs hx hy hP hL
  go_enter Tryd.func55, Tryd.ntmps55
  go_upto_region 1 with fail
  generalize w.alloc (.cells #[.int .i64 s.id, .string s.fr, .string s.dst, .int .i64 s.dep, .int .i64 s.arr, .slice lo s.la.n c1, .slice co s.ca.n c2, .int .i64 s.most] 49) = W at hb0 b0 hL0 ⊢
  have HK : Hid (∀ w', Below W.heap.size W w' → w'.cell? ⟨2, 2, none⟩ = some (.string sailW) ∧ w'.cell? ⟨w.heap.size, 0, none⟩ = some (.int .i64 s.id) ∧ w'.cell? ⟨w.heap.size, 1, none⟩ = some (.string s.fr) ∧ w'.cell? ⟨w.heap.size, 2, none⟩ = some (.string s.dst) ∧ w'.cell? ⟨w.heap.size, 3, none⟩ = some (.int .i64 s.dep) ∧ w'.cell? ⟨w.heap.size, 4, none⟩ = some (.int .i64 s.arr) ∧ w'.cell? ⟨w.heap.size, 5, none⟩ = some (.slice lo s.la.n c1) ∧ w'.cell? ⟨w.heap.size, 6, none⟩ = some (.slice co s.ca.n c2) ∧ w'.cell? ⟨w.heap.size, 7, none⟩ = some (.int .i64 s.most)) := fun w' hb => by
    have b := blk_below b0 hb
    exact ⟨(hb.cell (World.block_lt_of_cell? W _ hL0)).trans hL0, blk_cell b 0 _ rfl, blk_cell b 1 _ rfl, blk_cell b 2 _ rfl, blk_cell b 3 _ rfl, blk_cell b 4 _ rfl, blk_cell b 5 _ rfl, blk_cell b 6 _ rfl, blk_cell b 7 _ rfl⟩
  have HI : Hid (∀ (n : Int) W', 0 ≤ n ∧ n ≤ 1000000 → Below W.heap.size W W' → Calls Tryd.prog 77 #[.int .i64 n] W' fun e w' => e = .returned (.string (numT n)) ∧ Below W.heap.size W w') := fun n W' hn hb =>
    (itoa_any n (by omega) (by omega) W' (HXY.out.2.2.below (after hb0 hb))).mono fun e w' ⟨h1, h2⟩ => ⟨h1, after hb h2⟩
  have HLA : Hid (∀ W', Below W.heap.size W W' → Calls Tryd.prog 96 #[.slice lo s.la.n c1, .func (.func 97) #[] #[]] W' fun e w' => e = .returned (.string (pairsT s.la)) ∧ Below W.heap.size W w') := fun W' hb =>
    (listLane_any lo c1 s.la W' (small_la HG.out) (HXY.out.1.below (after hb0 hb)) (HXY.out.2.2.below (after hb0 hb))).mono fun e w' ⟨h1, h2⟩ => ⟨h1, after hb h2⟩
  have HCA : Hid (∀ W', Below W.heap.size W W' → Calls Tryd.prog 98 #[.slice co s.ca.n c2, .func (.func 99) #[] #[]] W' fun e w' => e = .returned (.string (pairsT s.ca)) ∧ Below W.heap.size W w') := fun W' hb =>
    (listCabin_any co c2 s.ca W' (small_ca HG.out) (HXY.out.2.1.below (after hb0 hb)) (HXY.out.2.2.below (after hb0 hb))).mono fun e w' ⟨h1, h2⟩ => ⟨h1, after hb h2⟩
  obtain ⟨k0, k1, k2, k3, k4, k5, k6, k7, k8⟩ := HK.out W (Below.refl _ _)
  have HB0 : Hid (Below w.heap.size w W) := hb0
  clear b0 hL0 hb0
  go_region_held3 (fun w' => w'.cell? ⟨2, 2, none⟩ = some (.string sailW) ∧ w'.cell? ⟨w.heap.size, 0, none⟩ = some (.int .i64 s.id) ∧ w'.cell? ⟨w.heap.size, 1, none⟩ = some (.string s.fr) ∧ w'.cell? ⟨w.heap.size, 2, none⟩ = some (.string s.dst) ∧ w'.cell? ⟨w.heap.size, 3, none⟩ = some (.int .i64 s.dep) ∧ w'.cell? ⟨w.heap.size, 4, none⟩ = some (.int .i64 s.arr) ∧ w'.cell? ⟨w.heap.size, 5, none⟩ = some (.slice lo s.la.n c1) ∧ w'.cell? ⟨w.heap.size, 6, none⟩ = some (.slice co s.ca.n c2) ∧ w'.cell? ⟨w.heap.size, 7, none⟩ = some (.int .i64 s.most))
    (first | (refine HK.out _ ?_; first | exact push HB6.out _ | exact HB6.out | exact HB5.out | exact HB4.out | exact HB3.out | exact HB2.out | exact HB1.out | exact (Below.refl _ _).drew | exact Below.refl _ _))
    (first
      | (go_at_call 77; first
        | (with_reducible refine Calls.mono (HI.out s.id _ HR.out.1 ?_) ?_); (focus (first | exact (Below.refl _ _).drew | exact Below.refl _ _)); rintro e w1 ⟨rfl, hb1⟩; have HB1 : Hid (Below W.heap.size W w1) := hb1; clear hb1
        | (with_reducible refine Calls.mono (HI.out s.dep _ HR.out.2.1 HB1.out) ?_); rintro e w2 ⟨rfl, hb1⟩; have HB2 : Hid (Below W.heap.size W w2) := hb1; clear hb1
        | (with_reducible refine Calls.mono (HI.out s.arr _ HR.out.2.2.1 HB2.out) ?_); rintro e w3 ⟨rfl, hb1⟩; have HB3 : Hid (Below W.heap.size W w3) := hb1; clear hb1
        | (with_reducible refine Calls.mono (HI.out s.most _ HR.out.2.2.2.1 HB3.out) ?_); rintro e w4 ⟨rfl, hb1⟩; have HB4 : Hid (Below W.heap.size W w4) := hb1; clear hb1)
      | (go_at_call 96; (with_reducible refine Calls.mono (HLA.out _ HB4.out) ?_); rintro e w5 ⟨rfl, hb1⟩; have HB5 : Hid (Below W.heap.size W w5) := hb1; clear hb1)
      | (go_at_call 98; (with_reducible refine Calls.mono (HCA.out _ HB5.out) ?_); rintro e w6 ⟨rfl, hb1⟩; have HB6 : Hid (Below W.heap.size W w6) := hb1; clear hb1))
  go_wp2
  go_ret
  exact ⟨_, rfl, ⟨rfl, .inr ⟨w6.heap.size, 9, #[.string sailW, .string (numT s.id), .string s.fr, .string s.dst, .string (numT s.dep), .string (numT s.arr), .string (numT s.most), .string (pairsT s.la), .string (pairsT s.ca)], rfl, (after HB0.out HB6.out).size, heap_alloc_new w6 _, Nat.le_refl _, by unfold maxLen; omega, rfl, rfl⟩⟩, after HB0.out (push HB6.out _)⟩

set_option maxHeartbeats 1600000 in
set_option maxRecDepth 100000 in
theorem implSText_any (s : Sail) (lo co : Option Addr) (c1 c2 : Nat) (w : World) (hfr : s.fr.size ≤ 1000000000000000) (hto : s.dst.size ≤ 1000000000000000) (hn : s.la.n ≤ 1048576) (hm : s.ca.n ≤ 1048576) (hx : PairsAt w lo s.la) (hy : PairsAt w co s.ca) (hP : PowAt w) (hL : LineAt w) :
    Calls Tryd.prog 19 #[.agg #[.int .i64 s.id, .string s.fr, .string s.dst, .int .i64 s.dep, .int .i64 s.arr, .slice lo s.la.n c1, .slice co s.ca.n c2, .int .i64 s.most]] w fun e w' => e = .returned (.tuple #[.string (stext s), .bool (goodS s)]) ∧ Below w.heap.size w w' := by
  have HXY : Hid (PairsAt w lo s.la ∧ PairsAt w co s.ca ∧ PowAt w ∧ LineAt w) := ⟨hx, hy, hP, hL⟩
  have hb0 : Below w.heap.size w (w.alloc (.cells #[.int .i64 s.id, .string s.fr, .string s.dst, .int .i64 s.dep, .int .i64 s.arr, .slice lo s.la.n c1, .slice co s.ca.n c2, .int .i64 s.most] 49)) := push (Below.refl _ _) _
  have b0 := heap_alloc_new w (.cells #[.int .i64 s.id, .string s.fr, .string s.dst, .int .i64 s.dep, .int .i64 s.arr, .slice lo s.la.n c1, .slice co s.ca.n c2, .int .i64 s.most] 49)
  clear hx hy hP hL
  go_enter Tryd.func19, Tryd.ntmps19
  go_upto_region 1 with fail
  generalize w.alloc (.cells #[.int .i64 s.id, .string s.fr, .string s.dst, .int .i64 s.dep, .int .i64 s.arr, .slice lo s.la.n c1, .slice co s.ca.n c2, .int .i64 s.most] 49) = W at hb0 b0 ⊢
  have y0 := blk_cell b0 0 _ rfl
  have y1 := blk_cell b0 1 _ rfl
  have y2 := blk_cell b0 2 _ rfl
  have y3 := blk_cell b0 3 _ rfl
  have y4 := blk_cell b0 4 _ rfl
  have y5 := blk_cell b0 5 _ rfl
  have y6 := blk_cell b0 6 _ rfl
  have y7 := blk_cell b0 7 _ rfl
  go_wp2_with fail
  refine (implSailing_any _ _ _ _ _ _ _ _ _ _ _ _ s.la s.ca _ rfl rfl hfr hto hn hm (HXY.out.1.below hb0) (HXY.out.2.1.below hb0)).mono ?_
  rintro e w2 ⟨⟨q, rfl, hq⟩, hb2⟩
  have HQ : Hid (q = true ↔ GoodSail s) := hq
  have b2 := blk_below b0 hb2
  have hB2 := after hb0 hb2
  clear y0 y1 y2 y3 y4 y5 y6 y7 b0 hb0 hb2 hq
  cases q with
  | false =>
    have hno : ¬ GoodSail s := fun h => by have := HQ.out.2 h; cases this
    have HR : Hid (stext s = ⟨#[]⟩ ∧ goodS s = false) := stext_not hno
    clear hno
    go_wp2
    exact bodyPost_ret (v := .tuple #[.string ⟨#[]⟩, .bool false]) (by simp [results, Tryd.results19, go_sem]) rfl ⟨by rw [HR.out.1, HR.out.2], hB2⟩
  | true =>
    have HG : Hid (GoodSail s) := by first | exact HQ.out.1 rfl | exact HQ.out.1 trivial
    have HR : Hid (stext s = sailT s ∧ goodS s = true) := stext_yes HG.out
    have y0 := blk_cell b2 0 _ rfl
    have y1 := blk_cell b2 1 _ rfl
    have y2 := blk_cell b2 2 _ rfl
    have y3 := blk_cell b2 3 _ rfl
    have y4 := blk_cell b2 4 _ rfl
    have y5 := blk_cell b2 5 _ rfl
    have y6 := blk_cell b2 6 _ rfl
    have y7 := blk_cell b2 7 _ rfl
    go_wp2_with fail
    refine (sailingTold_any s lo co c1 c2 _ HG.out (HXY.out.1.below hB2) (HXY.out.2.1.below hB2) (HXY.out.2.2.1.below hB2) (HXY.out.2.2.2.below hB2)).mono ?_
    rintro e w4 ⟨v, rfl, ho4, hb4⟩
    have HO : Hid (OwnT w4 w2.heap.size v (sailP s)) := ho4
    clear y0 y1 y2 y3 y4 y5 y6 y7 ho4
    go_wp2_with fail
    refine (join_any spT (sailP s) v _ _ HO.out (by show 9 ≤ _; omega) (by have h1 := sailT_size HG.out; unfold sailT at h1; omega)).mono ?_
    rintro e w5 ⟨rfl, hb5⟩
    go_wp2
    exact bodyPost_ret (v := .tuple #[.string (sailT s), .bool true]) (by simp [results, Tryd.results19, go_sem, sailT]) rfl ⟨by rw [HR.out.1, HR.out.2], after (after hB2 hb4) hb5⟩

end Go.Proofs.YtfbooamjddnagaaDoor

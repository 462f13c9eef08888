/-
  OWN TEXT: ImplCab, ImplS2, ImplS3, SailI, SpecSt1.
-/
import Derived.Deep.RegionHeld3
import Derived.Test.YtfallpinmhbemaaGreatDoorB30
import Derived.Test.YtfallpinmhbemaaGreatDoorB32
import Derived.Test.YtfallpinmhbemaaGreatDoorB29
namespace Go.Proofs.YtfallpinmhbemaaGreatDoor
open Go.RowKit

set_option maxHeartbeats 800000 in
set_option maxRecDepth 100000 in
theorem goodCabins_any (ao : Option Addr) (n c : Nat) (p : Pairs) (w : World) (hl : p.n = n) (hn : n ≤ 1048576) (hz : PairsAt w ao p) :
    Calls Tryz.prog 63 #[.slice ao n c] w fun e w' => SaysIf (GoodPairs p 6 1 3 1 4) e ∧ Below w.heap.size w w' := by
  have HL : Hid (p.n = n) := hl
  clear hl
  by_cases h0 : n ≤ 6
  · have d0 : decide (6 < n) = false := by simp; omega
    go_enter Tryz.func63, Tryz.ntmps63
    go_wp2
    go_loopw [4, 10] (fun _ i wr => ∃ k : Nat, k ≤ n ∧ i = .int .i64 k ∧ (∀ j, j < k → In (p.A j) 1 3 ∧ In (p.B j) 1 4) ∧ Below w.heap.size w wr) (fun _ i _ => n - (intOf i).toNat)
    case atStart => exact ⟨0, Nat.zero_le _, rfl, fun j hj => by omega, Below.refl _ _⟩
    case round =>
      obtain ⟨k, hk, rfl, hall, hbel⟩ := hrel
      have HA : Hid (∀ j, j < k → In (p.A j) 1 3 ∧ In (p.B j) 1 4) := hall
      clear hall d0
      by_cases hlt : k < n
      · obtain ⟨b, off, rfl, h1, h2⟩ := hz k (by rw [HL.out]; omega)
        have hb := World.block_lt_of_cell? w _ h1
        have c1 := (hbel.cell (p := ⟨b, off + k * 2, none⟩) hb).trans h1
        have c2 := (hbel.cell (p := ⟨b, off + k * 2 + 1, none⟩) hb).trans h2
        clear h1 h2
        by_cases g1 : In (p.A k) 1 3
        · have e1 : decide (In (p.A k) 1 3) = true := decide_eq_true g1
          by_cases g2 : In (p.B k) 1 4
          · have e2 : decide (In (p.B k) 1 4) = true := decide_eq_true g2
            have HK : Hid (In (p.A k) 1 3 ∧ In (p.B k) 1 4) := ⟨g1, g2⟩
            clear g1 g2
            go_wp2_with (first | (go_at_call 97; refine (class_is _ _).mono ?_; rintro e w' ⟨rfl, hw'⟩; have hw' := hw'.symm; subst hw') | (go_at_call 98; refine (berths_is _ _).mono ?_; rintro e w' ⟨rfl, hw'⟩; have hw' := hw'.symm; subst hw'))
            go_roundw
            case rel => exact ⟨k + 1, by omega, by go_num, fun j hj => by
              by_cases e : j = k
              · subst e; exact HK.out
              · exact HA.out j (by omega), push hbel _⟩
            case measure => simp [intOf]; omega
          · have e2 : decide (In (p.B k) 1 4) = false := decide_eq_false g2
            have HK : Hid (¬ In (p.B k) 1 4) := g2
            clear g1 g2
            go_wp2_with (first | (go_at_call 97; refine (class_is _ _).mono ?_; rintro e w' ⟨rfl, hw'⟩; have hw' := hw'.symm; subst hw') | (go_at_call 98; refine (berths_is _ _).mono ?_; rintro e w' ⟨rfl, hw'⟩; have hw' := hw'.symm; subst hw'))
            go_ret
            exact ⟨says_no (fun h => HK.out (h.2 k (by rw [HL.out]; exact hlt)).2), push hbel _⟩
        · have e1 : decide (In (p.A k) 1 3) = false := decide_eq_false g1
          have HK : Hid (¬ In (p.A k) 1 3) := g1
          clear g1
          go_wp2_with (first | (go_at_call 97; refine (class_is _ _).mono ?_; rintro e w' ⟨rfl, hw'⟩; have hw' := hw'.symm; subst hw') | (go_at_call 98; refine (berths_is _ _).mono ?_; rintro e w' ⟨rfl, hw'⟩; have hw' := hw'.symm; subst hw'))
          go_ret
          exact ⟨says_no (fun h => HK.out (h.2 k (by rw [HL.out]; exact hlt)).1), push hbel _⟩
      · obtain rfl : k = n := by omega
        go_wp2
        go_ret
        exact ⟨says_yes ⟨by rw [HL.out]; exact h0, fun j hj => HA.out j (by rw [HL.out] at hj; exact hj)⟩, hbel⟩
  · have d0 : decide (6 < n) = true := by simp; omega
    go_enter Tryz.func63, Tryz.ntmps63
    go_wp2
    go_ret
    exact ⟨says_no (fun h => by have := h.1; rw [HL.out] at this; exact h0 this), Below.refl _ _⟩

end Go.Proofs.YtfallpinmhbemaaGreatDoor

namespace Go.Proofs.YtfallpinmhbemaaGreatDoor
open Go.RowKit

end Go.Proofs.YtfallpinmhbemaaGreatDoor

namespace Go.Proofs.YtfallpinmhbemaaGreatDoor
open Go.RowKit

set_option maxHeartbeats 1600000 in
set_option maxRecDepth 100000 in
theorem implSailing_any (x d a mo : Int) (fr tt : ByteArray) (lo co : Option Addr) (n m c1 c2 : Nat) (l1 l2 : Pairs) (w : World) (e1 : l1.n = n) (e2 : l2.n = m) (hfr : fr.size ≤ 1000000000000000) (hto : tt.size ≤ 1000000000000000) (hn : n ≤ 1048576) (hm : m ≤ 1048576) (hx : PairsAt w lo l1) (hy : PairsAt w co l2) :
    Calls Tryz.prog 24 #[.agg #[.int .i64 x, .string fr, .string tt, .int .i64 d, .int .i64 a, .slice lo n c1, .slice co m c2, .int .i64 mo]] w fun e w' => SaysIf (GoodSail ⟨x, fr, tt, d, a, l1, l2, mo⟩) e ∧ Below w.heap.size w w' := by
  have hb0 : Below w.heap.size w (w.alloc (.cells #[.int .i64 x, .string fr, .string tt, .int .i64 d, .int .i64 a, .slice lo n c1, .slice co m c2, .int .i64 mo] 37)) := push (Below.refl _ _) _
  have A0 := heap_alloc_new w (.cells #[.int .i64 x, .string fr, .string tt, .int .i64 d, .int .i64 a, .slice lo n c1, .slice co m c2, .int .i64 mo] 37)
  have E1 : Hid (l1.n = n) := e1
  have E2 : Hid (l2.n = m) := e2
  clear e1 e2
  by_cases g1 : In x 1 99
  case neg =>
    have fg1 : decide (In x 1 99) = false := by exact decide_eq_false g1
    have HN : Hid (¬ GoodSail ⟨x, fr, tt, d, a, l1, l2, mo⟩) := fun h => g1 h.1
    clear g1
    go_enter Tryz.func24, Tryz.ntmps24
    go_wp2_with (first | (go_at_call 60; refine (sailingId_is _ _).mono ?_; rintro e w' ⟨rfl, hw'⟩; have hw' := hw'.symm; subst hw') | (go_at_call 61; refine (unlikeNames_is _ _ _ hfr hto).mono ?_; rintro e w' ⟨rfl, hw'⟩; have hw' := hw'.symm; subst hw') | (go_at_call 31; refine (within_is _ _ _ _).mono ?_; rintro e w' ⟨rfl, hw'⟩; have hw' := hw'.symm; subst hw'))
    go_ret
    exact ⟨says_no HN.out, hb0⟩
  have fg1 : decide (In x 1 99) = true := by exact decide_eq_true g1
  by_cases g2 : Unlike fr tt
  case neg =>
    have fg2 : decide (Unlike fr tt) = false := by exact decide_eq_false g2
    have HN : Hid (¬ GoodSail ⟨x, fr, tt, d, a, l1, l2, mo⟩) := fun h => g2 ⟨h.2.1, h.2.2.1, h.2.2.2.1⟩
    clear g1 g2
    go_enter Tryz.func24, Tryz.ntmps24
    go_wp2_with (first | (go_at_call 60; refine (sailingId_is _ _).mono ?_; rintro e w' ⟨rfl, hw'⟩; have hw' := hw'.symm; subst hw') | (go_at_call 61; refine (unlikeNames_is _ _ _ hfr hto).mono ?_; rintro e w' ⟨rfl, hw'⟩; have hw' := hw'.symm; subst hw') | (go_at_call 31; refine (within_is _ _ _ _).mono ?_; rintro e w' ⟨rfl, hw'⟩; have hw' := hw'.symm; subst hw'))
    go_ret
    exact ⟨says_no HN.out, hb0⟩
  have fg2 : decide (Unlike fr tt) = true := by exact decide_eq_true g2
  by_cases g3 : 0 ≤ d
  case neg =>
    have fg3 : decide (0 ≤ d) = false := by simpa using g3
    have HN : Hid (¬ GoodSail ⟨x, fr, tt, d, a, l1, l2, mo⟩) := fun h => g3 h.2.2.2.2.1
    clear g1 g2 g3
    go_enter Tryz.func24, Tryz.ntmps24
    go_wp2_with (first | (go_at_call 60; refine (sailingId_is _ _).mono ?_; rintro e w' ⟨rfl, hw'⟩; have hw' := hw'.symm; subst hw') | (go_at_call 61; refine (unlikeNames_is _ _ _ hfr hto).mono ?_; rintro e w' ⟨rfl, hw'⟩; have hw' := hw'.symm; subst hw') | (go_at_call 31; refine (within_is _ _ _ _).mono ?_; rintro e w' ⟨rfl, hw'⟩; have hw' := hw'.symm; subst hw'))
    go_ret
    exact ⟨says_no HN.out, hb0⟩
  have fg3 : decide (0 ≤ d) = true := by simpa using g3
  by_cases g4 : d < a
  case neg =>
    have fg4 : decide (d < a) = false := by simpa using g4
    have HN : Hid (¬ GoodSail ⟨x, fr, tt, d, a, l1, l2, mo⟩) := fun h => g4 h.2.2.2.2.2.1
    clear g1 g2 g3 g4
    go_enter Tryz.func24, Tryz.ntmps24
    go_wp2_with (first | (go_at_call 60; refine (sailingId_is _ _).mono ?_; rintro e w' ⟨rfl, hw'⟩; have hw' := hw'.symm; subst hw') | (go_at_call 61; refine (unlikeNames_is _ _ _ hfr hto).mono ?_; rintro e w' ⟨rfl, hw'⟩; have hw' := hw'.symm; subst hw') | (go_at_call 31; refine (within_is _ _ _ _).mono ?_; rintro e w' ⟨rfl, hw'⟩; have hw' := hw'.symm; subst hw'))
    go_ret
    exact ⟨says_no HN.out, hb0⟩
  have fg4 : decide (d < a) = true := by simpa using g4
  by_cases g5 : a ≤ 10000
  case neg =>
    have fg5 : decide (a ≤ 10000) = false := by simpa using g5
    have HN : Hid (¬ GoodSail ⟨x, fr, tt, d, a, l1, l2, mo⟩) := fun h => g5 h.2.2.2.2.2.2.1
    clear g1 g2 g3 g4 g5
    go_enter Tryz.func24, Tryz.ntmps24
    go_wp2_with (first | (go_at_call 60; refine (sailingId_is _ _).mono ?_; rintro e w' ⟨rfl, hw'⟩; have hw' := hw'.symm; subst hw') | (go_at_call 61; refine (unlikeNames_is _ _ _ hfr hto).mono ?_; rintro e w' ⟨rfl, hw'⟩; have hw' := hw'.symm; subst hw') | (go_at_call 31; refine (within_is _ _ _ _).mono ?_; rintro e w' ⟨rfl, hw'⟩; have hw' := hw'.symm; subst hw'))
    go_ret
    exact ⟨says_no HN.out, hb0⟩
  have fg5 : decide (a ≤ 10000) = true := by simpa using g5
  have HG : Hid (In x 1 99 ∧ Unlike fr tt ∧ 0 ≤ d ∧ d < a ∧ a ≤ 10000) := ⟨g1, g2, g3, g4, g5⟩
  clear g1 g2 g3 g4 g5
  go_enter Tryz.func24, Tryz.ntmps24
  go_wp2_with (first | (go_at_call 60; refine (sailingId_is _ _).mono ?_; rintro e w' ⟨rfl, hw'⟩; have hw' := hw'.symm; subst hw') | (go_at_call 61; refine (unlikeNames_is _ _ _ hfr hto).mono ?_; rintro e w' ⟨rfl, hw'⟩; have hw' := hw'.symm; subst hw') | (go_at_call 31; refine (within_is _ _ _ _).mono ?_; rintro e w' ⟨rfl, hw'⟩; have hw' := hw'.symm; subst hw'))
  refine (goodLanes_any lo n c1 l1 _ E1.out hn (hx.below hb0)).mono ?_
  rintro e w1 ⟨⟨b1, rfl, i1⟩, hb1⟩
  have A1 := blk_below A0 hb1
  have hb2 := after hb0 hb1
  have I1 : Hid (b1 = true ↔ GoodPairs l1 4 1 5000 100 500) := i1
  clear i1 A0 hb0 hb1
  cases b1 with
  | false =>
    go_wp2
    go_ret
    exact ⟨says_no (fun h => by have := I1.out.2 h.2.2.2.2.2.2.2.1; cases this), hb2⟩
  | true =>
    have q6 := blk_cell A1 6 _ rfl
    go_wp2_with fail
    refine (goodCabins_any co m c2 l2 _ E2.out hm (hy.below hb2)).mono ?_
    rintro e w2 ⟨⟨b2, rfl, i2⟩, hb3⟩
    have A2 := blk_below A1 hb3
    have hb4 := after hb2 hb3
    have I2 : Hid (b2 = true ↔ GoodPairs l2 6 1 3 1 4) := i2
    clear i2 A1 hb2 hb3 q6
    cases b2 with
    | false =>
      go_wp2
      go_ret
      exact ⟨says_no (fun h => by have := I2.out.2 h.2.2.2.2.2.2.2.2.1; cases this), hb4⟩
    | true =>
      have q7 := blk_cell A2 7 _ rfl
      by_cases g8 : In mo 0 500
      · have f8 : decide (In mo 0 500) = true := decide_eq_true g8
        have H8 : Hid (In mo 0 500) := g8
        clear g8
        go_wp2_with (first | (go_at_call 60; refine (sailingId_is _ _).mono ?_; rintro e w' ⟨rfl, hw'⟩; have hw' := hw'.symm; subst hw') | (go_at_call 61; refine (unlikeNames_is _ _ _ hfr hto).mono ?_; rintro e w' ⟨rfl, hw'⟩; have hw' := hw'.symm; subst hw') | (go_at_call 31; refine (within_is _ _ _ _).mono ?_; rintro e w' ⟨rfl, hw'⟩; have hw' := hw'.symm; subst hw'))
        go_ret
        exact ⟨says_yes ⟨HG.out.1, HG.out.2.1.1, HG.out.2.1.2.1, HG.out.2.1.2.2, HG.out.2.2.1, HG.out.2.2.2.1, HG.out.2.2.2.2, I1.out.1 (by simp), I2.out.1 (by simp), H8.out⟩, hb4⟩
      · have f8 : decide (In mo 0 500) = false := decide_eq_false g8
        have H8 : Hid (¬ In mo 0 500) := g8
        clear g8
        go_wp2_with (first | (go_at_call 60; refine (sailingId_is _ _).mono ?_; rintro e w' ⟨rfl, hw'⟩; have hw' := hw'.symm; subst hw') | (go_at_call 61; refine (unlikeNames_is _ _ _ hfr hto).mono ?_; rintro e w' ⟨rfl, hw'⟩; have hw' := hw'.symm; subst hw') | (go_at_call 31; refine (within_is _ _ _ _).mono ?_; rintro e w' ⟨rfl, hw'⟩; have hw' := hw'.symm; subst hw'))
        go_ret
        exact ⟨says_no (fun h => H8.out h.2.2.2.2.2.2.2.2.2), hb4⟩

end Go.Proofs.YtfallpinmhbemaaGreatDoor

namespace Go.Proofs.YtfallpinmhbemaaGreatDoor
open Go.RowKit

def sailW : ByteArray := ⟨#[115, 97, 105, 108]⟩
/-- A sailing's words. -/
def sailP (s : Sail) : List ByteArray := [sailW, numT s.id, s.fr, s.dst, numT s.dep, numT s.arr, numT s.most, pairsT s.la, pairsT s.ca]
def sailT (s : Sail) : ByteArray := joinT spT (sailP s)
noncomputable def goodS (s : Sail) : Bool := by classical exact decide (GoodSail s)
theorem goodS_iff (s : Sail) : goodS s = true ↔ GoodSail s := by classical exact decide_eq_true_iff
/-- The text that is answered. -/
noncomputable def stext (s : Sail) : ByteArray := if goodS s = true then sailT s else ⟨#[]⟩
theorem stext_not {s : Sail} (h : ¬ GoodSail s) : stext s = ⟨#[]⟩ ∧ goodS s = false := by
  have h1 : goodS s = false := Bool.eq_false_iff.2 (fun e => h ((goodS_iff s).1 e))
  exact ⟨by unfold stext; rw [if_neg (by rw [h1]; decide)], h1⟩
theorem stext_yes {s : Sail} (h : GoodSail s) : stext s = sailT s ∧ goodS s = true := by
  have h1 : goodS s = true := (goodS_iff s).2 h
  exact ⟨by unfold stext; rw [if_pos h1], h1⟩
theorem small_la {s : Sail} (h : GoodSail s) : SmallP s.la := by
  unfold GoodSail GoodPairs at h
  obtain ⟨_, _, _, _, _, _, _, h1, _⟩ := h
  refine ⟨by omega, fun i hi => ?_⟩
  have := h1.2 i hi
  unfold In at *
  omega
theorem small_ca {s : Sail} (h : GoodSail s) : SmallP s.ca := by
  unfold GoodSail GoodPairs at h
  obtain ⟨_, _, _, _, _, _, _, _, h1, _⟩ := h
  refine ⟨by omega, fun i hi => ?_⟩
  have := h1.2 i hi
  unfold In at *
  omega
theorem sail_rng {s : Sail} (h : GoodSail s) : (0 ≤ s.id ∧ s.id ≤ 1000000) ∧ (0 ≤ s.dep ∧ s.dep ≤ 1000000) ∧ (0 ≤ s.arr ∧ s.arr ≤ 1000000) ∧ (0 ≤ s.most ∧ s.most ≤ 1000000) ∧ s.fr.size ≤ 12 ∧ s.dst.size ≤ 12 := by
  unfold GoodSail IsName In at h
  omega
theorem sailT_size {s : Sail} (h : GoodSail s) : (sailT s).size ≤ 20000 := by
  have r := sail_rng h
  have s1 := numT_size (n := s.id) (by omega) (by omega)
  have s2 := numT_size (n := s.dep) (by omega) (by omega)
  have s3 := numT_size (n := s.arr) (by omega) (by omega)
  have s4 := numT_size (n := s.most) (by omega) (by omega)
  have s5 := pairsT_size (small_la h)
  have s6 := pairsT_size (small_ca h)
  have key : ∀ (l : List ByteArray) (p : ByteArray), l ≠ [] → (joinT spT (l ++ [p])).size = (joinT spT l).size + 1 + p.size := fun l p hl => by
    rw [joinT_snoc spT p hl, ByteArray.size_append, ByteArray.size_append]
    show _ + (1 + _) = _
    omega
  unfold sailT sailP
  rw [show [sailW, numT s.id, s.fr, s.dst, numT s.dep, numT s.arr, numT s.most, pairsT s.la, pairsT s.ca] = ((((((([sailW] ++ [numT s.id]) ++ [s.fr]) ++ [s.dst]) ++ [numT s.dep]) ++ [numT s.arr]) ++ [numT s.most]) ++ [pairsT s.la]) ++ [pairsT s.ca] from rfl,
    key _ _ (by simp), key _ _ (by simp), key _ _ (by simp), key _ _ (by simp), key _ _ (by simp), key _ _ (by simp), key _ _ (by simp), key _ _ (by simp), joinT_one]
  have : sailW.size = 4 := rfl
  omega
/-- The word of a line that is a sailing lies in its table. -/
def LineAt (w : World) : Prop := w.cell? ⟨2, 2, none⟩ = some (.string sailW)
theorem LineAt.below {w w' : World} (h : LineAt w) (hb : Below w.heap.size w w') : LineAt w' := (hb.cell (World.block_lt_of_cell? w _ h)).trans h

set_option maxHeartbeats 1600000 in
set_option maxRecDepth 100000 in
theorem sailingTold_any (s : Sail) (lo co : Option Addr) (c1 c2 : Nat) (w : World) (hs : GoodSail s) (hx : PairsAt w lo s.la) (hy : PairsAt w co s.ca) (hP : PowAt w) (hL : LineAt w) :
    Calls Tryz.prog 25 #[.agg #[.int .i64 s.id, .string s.fr, .string s.dst, .int .i64 s.dep, .int .i64 s.arr, .slice lo s.la.n c1, .slice co s.ca.n c2, .int .i64 s.most]] w fun e w' => ∃ v, e = .returned v ∧ OwnT w' w.heap.size v (sailP s) ∧ Below w.heap.size w w' := by
  have HG : Hid (GoodSail s) := hs
  have HR : Hid _ := sail_rng hs
  have HXY : Hid (PairsAt w lo s.la ∧ PairsAt w co s.ca ∧ PowAt w) := ⟨hx, hy, hP⟩
  have hb0 : Below w.heap.size w (w.alloc (.cells #[.int .i64 s.id, .string s.fr, .string s.dst, .int .i64 s.dep, .int .i64 s.arr, .slice lo s.la.n c1, .slice co s.ca.n c2, .int .i64 s.most] 37)) := push (Below.refl _ _) _
  have b0 := heap_alloc_new w (.cells #[.int .i64 s.id, .string s.fr, .string s.dst, .int .i64 s.dep, .int .i64 s.arr, .slice lo s.la.n c1, .slice co s.ca.n c2, .int .i64 s.most] 37)
  have hL0 := hL.below hb0
  unfold LineAt at hL0
  clear hs hx hy hP hL
  go_enter Tryz.func25, Tryz.ntmps25
  go_upto_region 1 with fail
  generalize w.alloc (.cells #[.int .i64 s.id, .string s.fr, .string s.dst, .int .i64 s.dep, .int .i64 s.arr, .slice lo s.la.n c1, .slice co s.ca.n c2, .int .i64 s.most] 37) = W at hb0 b0 hL0 ⊢
  have HK : Hid (∀ w', Below W.heap.size W w' → w'.cell? ⟨2, 2, none⟩ = some (.string sailW) ∧ w'.cell? ⟨w.heap.size, 0, none⟩ = some (.int .i64 s.id) ∧ w'.cell? ⟨w.heap.size, 1, none⟩ = some (.string s.fr) ∧ w'.cell? ⟨w.heap.size, 2, none⟩ = some (.string s.dst) ∧ w'.cell? ⟨w.heap.size, 3, none⟩ = some (.int .i64 s.dep) ∧ w'.cell? ⟨w.heap.size, 4, none⟩ = some (.int .i64 s.arr) ∧ w'.cell? ⟨w.heap.size, 5, none⟩ = some (.slice lo s.la.n c1) ∧ w'.cell? ⟨w.heap.size, 6, none⟩ = some (.slice co s.ca.n c2) ∧ w'.cell? ⟨w.heap.size, 7, none⟩ = some (.int .i64 s.most)) := fun w' hb => by
    have b := blk_below b0 hb
    exact ⟨(hb.cell (World.block_lt_of_cell? W _ hL0)).trans hL0, blk_cell b 0 _ rfl, blk_cell b 1 _ rfl, blk_cell b 2 _ rfl, blk_cell b 3 _ rfl, blk_cell b 4 _ rfl, blk_cell b 5 _ rfl, blk_cell b 6 _ rfl, blk_cell b 7 _ rfl⟩
  have HI : Hid (∀ (n : Int) W', 0 ≤ n ∧ n ≤ 1000000 → Below W.heap.size W W' → Calls Tryz.prog 39 #[.int .i64 n] W' fun e w' => e = .returned (.string (numT n)) ∧ Below W.heap.size W w') := fun n W' hn hb =>
    (itoa_any n (by omega) (by omega) W' (HXY.out.2.2.below (after hb0 hb))).mono fun e w' ⟨h1, h2⟩ => ⟨h1, after hb h2⟩
  have HLA : Hid (∀ W', Below W.heap.size W W' → Calls Tryz.prog 64 #[.slice lo s.la.n c1, .func (.func 65) #[] #[]] W' fun e w' => e = .returned (.string (pairsT s.la)) ∧ Below W.heap.size W w') := fun W' hb =>
    (listLane_any lo c1 s.la W' (small_la HG.out) (HXY.out.1.below (after hb0 hb)) (HXY.out.2.2.below (after hb0 hb))).mono fun e w' ⟨h1, h2⟩ => ⟨h1, after hb h2⟩
  have HCA : Hid (∀ W', Below W.heap.size W W' → Calls Tryz.prog 66 #[.slice co s.ca.n c2, .func (.func 67) #[] #[]] W' fun e w' => e = .returned (.string (pairsT s.ca)) ∧ Below W.heap.size W w') := fun W' hb =>
    (listCabin_any co c2 s.ca W' (small_ca HG.out) (HXY.out.2.1.below (after hb0 hb)) (HXY.out.2.2.below (after hb0 hb))).mono fun e w' ⟨h1, h2⟩ => ⟨h1, after hb h2⟩
  obtain ⟨k0, k1, k2, k3, k4, k5, k6, k7, k8⟩ := HK.out W (Below.refl _ _)
  have HB0 : Hid (Below w.heap.size w W) := hb0
  clear b0 hL0 hb0
  go_region_held3 (fun w' => w'.cell? ⟨2, 2, none⟩ = some (.string sailW) ∧ w'.cell? ⟨w.heap.size, 0, none⟩ = some (.int .i64 s.id) ∧ w'.cell? ⟨w.heap.size, 1, none⟩ = some (.string s.fr) ∧ w'.cell? ⟨w.heap.size, 2, none⟩ = some (.string s.dst) ∧ w'.cell? ⟨w.heap.size, 3, none⟩ = some (.int .i64 s.dep) ∧ w'.cell? ⟨w.heap.size, 4, none⟩ = some (.int .i64 s.arr) ∧ w'.cell? ⟨w.heap.size, 5, none⟩ = some (.slice lo s.la.n c1) ∧ w'.cell? ⟨w.heap.size, 6, none⟩ = some (.slice co s.ca.n c2) ∧ w'.cell? ⟨w.heap.size, 7, none⟩ = some (.int .i64 s.most))
    (first | (refine HK.out _ ?_; first | exact push HB6.out _ | exact HB6.out | exact HB5.out | exact HB4.out | exact HB3.out | exact HB2.out | exact HB1.out | exact (Below.refl _ _).drew | exact Below.refl _ _))
    (first
      | (go_at_call 39; first
        | (with_reducible refine Calls.mono (HI.out s.id _ HR.out.1 ?_) ?_); (focus (first | exact (Below.refl _ _).drew | exact Below.refl _ _)); rintro e w1 ⟨rfl, hb1⟩; have HB1 : Hid (Below W.heap.size W w1) := hb1; clear hb1
        | (with_reducible refine Calls.mono (HI.out s.dep _ HR.out.2.1 HB1.out) ?_); rintro e w2 ⟨rfl, hb1⟩; have HB2 : Hid (Below W.heap.size W w2) := hb1; clear hb1
        | (with_reducible refine Calls.mono (HI.out s.arr _ HR.out.2.2.1 HB2.out) ?_); rintro e w3 ⟨rfl, hb1⟩; have HB3 : Hid (Below W.heap.size W w3) := hb1; clear hb1
        | (with_reducible refine Calls.mono (HI.out s.most _ HR.out.2.2.2.1 HB3.out) ?_); rintro e w4 ⟨rfl, hb1⟩; have HB4 : Hid (Below W.heap.size W w4) := hb1; clear hb1)
      | (go_at_call 64; (with_reducible refine Calls.mono (HLA.out _ HB4.out) ?_); rintro e w5 ⟨rfl, hb1⟩; have HB5 : Hid (Below W.heap.size W w5) := hb1; clear hb1)
      | (go_at_call 66; (with_reducible refine Calls.mono (HCA.out _ HB5.out) ?_); rintro e w6 ⟨rfl, hb1⟩; have HB6 : Hid (Below W.heap.size W w6) := hb1; clear hb1))
  go_wp2
  go_ret
  exact ⟨_, rfl, ⟨rfl, .inr ⟨w6.heap.size, 9, #[.string sailW, .string (numT s.id), .string s.fr, .string s.dst, .string (numT s.dep), .string (numT s.arr), .string (numT s.most), .string (pairsT s.la), .string (pairsT s.ca)], rfl, (after HB0.out HB6.out).size, heap_alloc_new w6 _, Nat.le_refl _, by unfold maxLen; omega, rfl, rfl⟩⟩, after HB0.out (push HB6.out _)⟩

set_option maxHeartbeats 1600000 in
set_option maxRecDepth 100000 in
theorem implSText_any (s : Sail) (lo co : Option Addr) (c1 c2 : Nat) (w : World) (hfr : s.fr.size ≤ 1000000000000000) (hto : s.dst.size ≤ 1000000000000000) (hn : s.la.n ≤ 1048576) (hm : s.ca.n ≤ 1048576) (hx : PairsAt w lo s.la) (hy : PairsAt w co s.ca) (hP : PowAt w) (hL : LineAt w) :
    Calls Tryz.prog 10 #[.agg #[.int .i64 s.id, .string s.fr, .string s.dst, .int .i64 s.dep, .int .i64 s.arr, .slice lo s.la.n c1, .slice co s.ca.n c2, .int .i64 s.most]] w fun e w' => e = .returned (.tuple #[.string (stext s), .bool (goodS s)]) ∧ Below w.heap.size w w' := by
  have HXY : Hid (PairsAt w lo s.la ∧ PairsAt w co s.ca ∧ PowAt w ∧ LineAt w) := ⟨hx, hy, hP, hL⟩
  have hb0 : Below w.heap.size w (w.alloc (.cells #[.int .i64 s.id, .string s.fr, .string s.dst, .int .i64 s.dep, .int .i64 s.arr, .slice lo s.la.n c1, .slice co s.ca.n c2, .int .i64 s.most] 37)) := push (Below.refl _ _) _
  have b0 := heap_alloc_new w (.cells #[.int .i64 s.id, .string s.fr, .string s.dst, .int .i64 s.dep, .int .i64 s.arr, .slice lo s.la.n c1, .slice co s.ca.n c2, .int .i64 s.most] 37)
  clear hx hy hP hL
  go_enter Tryz.func10, Tryz.ntmps10
  go_upto_region 1 with fail
  generalize w.alloc (.cells #[.int .i64 s.id, .string s.fr, .string s.dst, .int .i64 s.dep, .int .i64 s.arr, .slice lo s.la.n c1, .slice co s.ca.n c2, .int .i64 s.most] 37) = W at hb0 b0 ⊢
  have y0 := blk_cell b0 0 _ rfl
  have y1 := blk_cell b0 1 _ rfl
  have y2 := blk_cell b0 2 _ rfl
  have y3 := blk_cell b0 3 _ rfl
  have y4 := blk_cell b0 4 _ rfl
  have y5 := blk_cell b0 5 _ rfl
  have y6 := blk_cell b0 6 _ rfl
  have y7 := blk_cell b0 7 _ rfl
  go_wp2_with fail
  refine (implSailing_any _ _ _ _ _ _ _ _ _ _ _ _ s.la s.ca _ rfl rfl hfr hto hn hm (HXY.out.1.below hb0) (HXY.out.2.1.below hb0)).mono ?_
  rintro e w2 ⟨⟨q, rfl, hq⟩, hb2⟩
  have HQ : Hid (q = true ↔ GoodSail s) := hq
  have b2 := blk_below b0 hb2
  have hB2 := after hb0 hb2
  clear y0 y1 y2 y3 y4 y5 y6 y7 b0 hb0 hb2 hq
  cases q with
  | false =>
    have hno : ¬ GoodSail s := fun h => by have := HQ.out.2 h; cases this
    have HR : Hid (stext s = ⟨#[]⟩ ∧ goodS s = false) := stext_not hno
    clear hno
    go_wp2
    exact bodyPost_ret (v := .tuple #[.string ⟨#[]⟩, .bool false]) (by simp [results, Tryz.results10, go_sem]) rfl ⟨by rw [HR.out.1, HR.out.2], hB2⟩
  | true =>
    have HG : Hid (GoodSail s) := by first | exact HQ.out.1 rfl | exact HQ.out.1 trivial
    have HR : Hid (stext s = sailT s ∧ goodS s = true) := stext_yes HG.out
    have y0 := blk_cell b2 0 _ rfl
    have y1 := blk_cell b2 1 _ rfl
    have y2 := blk_cell b2 2 _ rfl
    have y3 := blk_cell b2 3 _ rfl
    have y4 := blk_cell b2 4 _ rfl
    have y5 := blk_cell b2 5 _ rfl
    have y6 := blk_cell b2 6 _ rfl
    have y7 := blk_cell b2 7 _ rfl
    go_wp2_with fail
    refine (sailingTold_any s lo co c1 c2 _ HG.out (HXY.out.1.below hB2) (HXY.out.2.1.below hB2) (HXY.out.2.2.1.below hB2) (HXY.out.2.2.2.below hB2)).mono ?_
    rintro e w4 ⟨v, rfl, ho4, hb4⟩
    have HO : Hid (OwnT w4 w2.heap.size v (sailP s)) := ho4
    clear y0 y1 y2 y3 y4 y5 y6 y7 ho4
    go_wp2_with fail
    refine (join_any spT (sailP s) v _ _ HO.out (by show 9 ≤ _; omega) (by have h1 := sailT_size HG.out; unfold sailT at h1; omega)).mono ?_
    rintro e w5 ⟨rfl, hb5⟩
    go_wp2
    exact bodyPost_ret (v := .tuple #[.string (sailT s), .bool true]) (by simp [results, Tryz.results10, go_sem, sailT]) rfl ⟨by rw [HR.out.1, HR.out.2], after (after hB2 hb4) hb5⟩

end Go.Proofs.YtfallpinmhbemaaGreatDoor

namespace Go.Proofs.YtfallpinmhbemaaGreatDoor
open Go.RowKit

/-- A list of lists of two numbers. -/
def PRows (w : World) (ao : Option Addr) (p : Pairs) : Prop := ∀ k, k < p.n → ∃ b off g, ao = some ⟨b, off, none⟩ ∧ w.cell? ⟨b, off + k, none⟩ = some (.slice (some ⟨g, 0, none⟩) 2 2) ∧ w.heap[g]? = some (.cells #[.int .i64 (p.A k), .int .i64 (p.B k)] 3 (0, 0))
theorem PRows.below {w w' : World} {ao : Option Addr} {p : Pairs} (h : PRows w ao p) (hb : Below w.heap.size w w') : PRows w' ao p := fun k hk => by
  obtain ⟨b, off, g, e, h1, h2⟩ := h k hk
  exact ⟨b, off, g, e, (hb.cell (World.block_lt_of_cell? w _ h1)).trans h1, blk_below h2 hb⟩
/-- The first k of them joined. -/
def pT (p : Pairs) (k : Nat) : ByteArray := joinT coT ((List.range k).map (fun i => pairT (p.A i) (p.B i)))
theorem pT_succ (p : Pairs) (k : Nat) (h : 0 < k) : pT p (k + 1) = pT p k ++ coT ++ pairT (p.A k) (p.B k) := by
  unfold pT
  rw [List.range_succ, List.map_append, List.map_cons, List.map_nil, joinT_snoc _ _ (by
    intro e
    have := congrArg List.length e
    simp at this
    omega), ByteArray.append_assoc]
theorem pT_one (p : Pairs) : pT p 1 = pairT (p.A 0) (p.B 0) := joinT_one _ _
theorem pT_size {p : Pairs} (h : SmallP p) (k : Nat) (hk : k ≤ p.n) : (pT p k).size ≤ 6006 := by
  have := joinT_le coT (by show 1 ≤ 1; omega) ((List.range k).map (fun i => pairT (p.A i) (p.B i))) (fun q hq => by
    obtain ⟨i, hi, rfl⟩ := List.mem_map.1 hq
    have hi' : i < k := by simpa using hi
    have h3 := h.2 i (by omega)
    have := pairT_size h3.1 h3.2
    omega)
  rw [List.length_map, List.length_range] at this
  have := h.1
  unfold pT
  omega

set_option maxHeartbeats 1600000 in
set_option maxRecDepth 100000 in
theorem l11Pairs_any (ao : Option Addr) (cap : Nat) (p : Pairs) (w : World) (hp : SmallP p) (hz : PRows w ao p) :
    Calls Tryz.prog 68 #[.slice ao p.n cap] w fun e w' => e = .returned (.string (pairsT p)) ∧ Below w.heap.size w w' := by
  have HN : Hid (SmallP p) := hp
  have hn6 := hp.1
  have HZ : Hid (PRows w ao p) := hz
  obtain ⟨n, hn⟩ : ∃ n, n = p.n := ⟨_, rfl⟩
  have HE : Hid (p.n = n) := hn.symm
  rw [← hn] at hn6 ⊢
  clear hp hz hn
  by_cases h0 : n = 0
  · have d0 : ((n : Int) == 0) = true := by rw [beq_iff_eq]; omega
    have ER : Hid ((⟨#[45]⟩ : ByteArray) = pairsT p) := by show _ = pairsT p; unfold pairsT; rw [if_pos (by rw [HE.out]; exact h0)]
    clear h0
    go_enter Tryz.func68, Tryz.ntmps68
    go_wp2
    go_ret
    exact ⟨congrArg (fun z => Ending.returned (Value.string z)) ER.out, Below.refl _ _⟩
  have d0 : ((n : Int) == 0) = false := by rw [beq_eq_false_iff_ne]; omega
  go_enter Tryz.func68, Tryz.ntmps68
  go_wp2
  go_loopw [3, 4, 5, 11] (fun v _ _ i wr => ∃ k : Nat, k ≤ n ∧ i = .int .i64 k ∧ v = .string (pT p k) ∧ Below w.heap.size w wr)
    (fun _ _ _ i _ => n - (intOf i).toNat)
  case atStart => exact ⟨0, Nat.zero_le _, rfl, rfl, Below.refl _ _⟩
  case round =>
    obtain ⟨k, hk, rfl, rfl, hbel⟩ := hrel
    by_cases hlt : k < n
    · obtain ⟨b, off, g, rfl, hc, hg⟩ := HZ.out.below hbel k (by rw [HE.out]; exact hlt)
      have hik := HN.out.2 k (by rw [HE.out]; exact hlt)
      have HIK : Hid (In (p.A k) 0 1000000 ∧ In (p.B k) 0 1000000) := hik
      have sp : (pairT (p.A k) (p.B k)).size ≤ 201 := pairT_size hik.1 hik.2
      have sl := pT_size HN.out k (by rw [HE.out]; exact hk)
      unfold In at hik
      have s1 := numT_size (n := p.A k) (by omega) (by omega)
      have s2 := numT_size (n := p.B k) (by omega) (by omega)
      have r1 := add_run (numT (p.A k)) ⟨#[47]⟩ (by omega) (by show 1 ≤ _; omega)
      have r2 : ∀ W : World, (Op.stringOp .add (numT (p.A k) ++ ⟨#[47]⟩) (numT (p.B k))).run Tryz.prog W = .ok (.string (pairT (p.A k) (p.B k))) W := add_run (numT (p.A k) ++ ⟨#[47]⟩) (numT (p.B k)) (by rw [ByteArray.size_append]; show _ + 1 ≤ _; omega) (by omega)
      have HN1 : Hid (∀ W : World, Calls Tryz.prog 47 #[.int .i64 (p.A k)] W fun e w' => e = .returned (.string (numT (p.A k))) ∧ Below W.heap.size W w') := fun W => l1Num_any (by have := HIK.out.1.1; omega) (by have := HIK.out.1.2; omega) W
      have HN2 : Hid (∀ W : World, Calls Tryz.prog 47 #[.int .i64 (p.B k)] W fun e w' => e = .returned (.string (numT (p.B k))) ∧ Below W.heap.size W w') := fun W => l1Num_any (by have := HIK.out.2.1; omega) (by have := HIK.out.2.2; omega) W
      have lg := blk_lt hg
      have y0 : ∀ h : Grown wr, h.val.cell? ⟨g, 0, none⟩ = some (.int .i64 (p.A k)) := fun h => (h.bel.cell lg).trans (blk_cell hg 0 _ rfl)
      have y1 : ∀ h : Grown wr, h.val.cell? ⟨g, 1, none⟩ = some (.int .i64 (p.B k)) := fun h => (h.bel.cell lg).trans (blk_cell hg 1 _ rfl)
      clear hg hik
      obtain ⟨T, E0, hT⟩ : ∃ T, T ++ pairT (p.A k) (p.B k) = pT p (k + 1) ∧ ((¬ 0 < k ∧ T = pT p k) ∨ (0 < k ∧ T = pT p k ++ ⟨#[44]⟩)) := by
        by_cases c : 0 < k
        · exact ⟨pT p k ++ ⟨#[44]⟩, (show pT p k ++ ⟨#[44]⟩ ++ pairT (p.A k) (p.B k) = pT p (k + 1) from (pT_succ p k c).symm), .inr ⟨c, rfl⟩⟩
        · refine ⟨pT p k, ?_, .inl ⟨c, rfl⟩⟩
          have e : k = 0 := by omega
          subst e
          show pT p 0 ++ _ = pT p 1
          rw [pT_one]
          exact ByteArray.empty_append
      have E : Hid (T ++ pairT (p.A k) (p.B k) = pT p (k + 1)) := E0
      clear E0
      have sT : T.size ≤ 6007 := by
        rcases hT with ⟨_, rfl⟩ | ⟨_, rfl⟩
        · omega
        · rw [ByteArray.size_append]; show _ + 1 ≤ _; omega
      have r3 := add_run T (pairT (p.A k) (p.B k)) (by omega) (by omega)
      go_upto_if 17 with fail
      go_cut [3] (fun v wx => v = .string T ∧ wx = wr)
      case first =>
        rcases hT with ⟨c, hT⟩ | ⟨c, hT⟩
        · have dk : decide ((0 : Int) < (k : Int)) = false := decide_eq_false (by omega)
          have dk' : decide (0 < k) = false := decide_eq_false (by omega)
          have HTT : Hid (pT p k = T) := hT.symm
          clear hT
          go_wp2
          go_meet
          exact ⟨congrArg Value.string HTT.out, rfl⟩
        · have dk : decide ((0 : Int) < (k : Int)) = true := decide_eq_true (by omega)
          have dk' : decide (0 < k) = true := decide_eq_true (by omega)
          have r4 := add_run (pT p k) ⟨#[44]⟩ (by omega) (by show 1 ≤ _; omega)
          have HTT : Hid (pT p k ++ ⟨#[44]⟩ = T) := hT.symm
          clear hT
          go_wp2
          go_meet
          exact ⟨congrArg Value.string HTT.out, rfl⟩
      case rest =>
      obtain ⟨rfl, hwx⟩ := hcut
      have hwx := hwx.symm
      subst hwx
      clear hT hc
      go_upto_region 9 with fail
      refine wp_region_grow (by kernel_rfl) (by kernel_rfl) ?_
      repeat (first | go_big_quiet_skip | (go_big_quiet_want; go_big_quiet_op; first | go_big_quiet_on | (apply Exists.intro; refine ⟨fun g => ?_, ?_⟩; (focus (go_at_call 47; first | (with_reducible refine grown_call (v := .string (numT (p.A k))) (HN1.out _)) | (with_reducible refine grown_call (v := .string (numT (p.B k))) (HN2.out _)))); go_big_quiet_on)))
      refine wpQuiet_nil ?_
      rintro _ ⟨h, rfl⟩
      clear y0 y1
      go_wp2
      go_roundw
      case rel => exact ⟨k + 1, by omega, by go_num, by rw [← E.out], after hbel h.bel⟩
      case measure => simp [intOf]; omega
    · obtain rfl : n = k := by omega
      have ER : Hid (pT p n = pairsT p) := by show pT p n = pairsT p; unfold pairsT pT; rw [HE.out, if_neg h0]
      go_wp2
      go_ret
      exact ⟨congrArg (fun z => Ending.returned (Value.string z)) ER.out, hbel⟩

end Go.Proofs.YtfallpinmhbemaaGreatDoor

/-
  OWN TEXT: SpecSt1, SpecS, SpecSt2, SpecRp.
-/
import Derived.Deep.LoopGhost
import Derived.Deep.DeepCutAuto
import Derived.Test.YtfbooamjddnagaaDoorXSail05
import Derived.Test.YtfbooamjddnagaaDoorB09
import Derived.Test.YtfbooamjddnagaaDoorB12
import Derived.Test.YtfbooamjddnagaaDoorB22
import Derived.Test.YtfbooamjddnagaaDoorXSail01
import Derived.Test.YtfbooamjddnagaaDoorXSail02
namespace Go.Proofs.YtfbooamjddnagaaDoor
open Go.RowKit

/-- A list of lists of two numbers. -/
def PRows (w : World) (ao : Option Addr) (p : Pairs) : Prop := ∀ k, k < p.n → ∃ b off g, ao = some ⟨b, off, none⟩ ∧ w.cell? ⟨b, off + k, none⟩ = some (.slice (some ⟨g, 0, none⟩) 2 2) ∧ w.heap[g]? = some (.cells #[.int .i64 (p.A k), .int .i64 (p.B k)] 3 (0, 0))
theorem PRows.below {w w' : World} {ao : Option Addr} {p : Pairs} (h : PRows w ao p) (hb : Below w.heap.size w w') : PRows w' ao p := fun k hk => by
  obtain ⟨b, off, g, e, h1, h2⟩ := h k hk
  exact ⟨b, off, g, e, (hb.cell (World.block_lt_of_cell? w _ h1)).trans h1, blk_below h2 hb⟩
/-- The first k of them joined. -/
def pT (p : Pairs) (k : Nat) : ByteArray := joinT coT ((List.range k).map (fun i => pairT (p.A i) (p.B i)))
theorem pT_succ (p : Pairs) (k : Nat) (h : 0 < k) : pT p (k + 1) = pT p k ++ coT ++ pairT (p.A k) (p.B k) := by
  unfold pT
  rw [List.range_succ, List.map_append, List.map_cons, List.map_nil, joinT_snoc _ _ (by
    intro e
    have := congrArg List.length e
    simp at this
    omega), ByteArray.append_assoc]
theorem pT_one (p : Pairs) : pT p 1 = pairT (p.A 0) (p.B 0) := joinT_one _ _
theorem pT_size {p : Pairs} (h : SmallP p) (k : Nat) (hk : k ≤ p.n) : (pT p k).size ≤ 6006 := by
  have := joinT_le coT (by show 1 ≤ 1; omega) ((List.range k).map (fun i => pairT (p.A i) (p.B i))) (fun q hq => by
    obtain ⟨i, hi, rfl⟩ := List.mem_map.1 hq
    have hi' : i < k := by simpa using hi
    have h3 := h.2 i (by omega)
    have := pairT_size h3.1 h3.2
    omega)
  rw [List.length_map, List.length_range] at this
  have := h.1
  unfold pT
  omega

set_option maxHeartbeats 1600000 in
set_option maxRecDepth 100000 in
theorem l11Pairs_any (ao : Option Addr) (cap : Nat) (p : Pairs) (w : World) (hp : SmallP p) (hz : PRows w ao p) :
    Calls Tryd.prog 89 #[.slice ao p.n cap] w fun e w' => e = .returned (.string (pairsT p)) ∧ Below w.heap.size w w' := by
  have HN : Hid (SmallP p) := hp
  have hn6 := hp.1
  have HZ : Hid (PRows w ao p) := hz
  obtain ⟨n, hn⟩ : ∃ n, n = p.n := ⟨_, rfl⟩
  have HE : Hid (p.n = n) := hn.symm
  rw [← hn] at hn6 ⊢
  clear hp hz hn
  by_cases h0 : n = 0
  · have d0 : ((n : Int) == 0) = true := by rw [beq_iff_eq]; omega
    have ER : Hid ((⟨#[45]⟩ : ByteArray) = pairsT p) := by show _ = pairsT p; unfold pairsT; rw [if_pos (by rw [HE.out]; exact h0)]
    clear h0
    go_enter Tryd.func89, Tryd.ntmps89
    go_wp2
    go_ret
    exact ⟨congrArg (fun z => Ending.returned (Value.string z)) ER.out, Below.refl _ _⟩
  have d0 : ((n : Int) == 0) = false := by rw [beq_eq_false_iff_ne]; omega
  go_enter Tryd.func89, Tryd.ntmps89
  go_wp2
  go_loopw [3, 4, 5, 11] (fun v _ _ i wr => ∃ k : Nat, k ≤ n ∧ i = .int .i64 k ∧ v = .string (pT p k) ∧ Below w.heap.size w wr)
    (fun _ _ _ i _ => n - (intOf i).toNat)
  case atStart => exact ⟨0, Nat.zero_le _, rfl, rfl, Below.refl _ _⟩
  case round =>
    obtain ⟨k, hk, rfl, rfl, hbel⟩ := hrel
    by_cases hlt : k < n
    · obtain ⟨b, off, g, rfl, hc, hg⟩ := HZ.out.below hbel k (by rw [HE.out]; exact hlt)
      have hik := HN.out.2 k (by rw [HE.out]; exact hlt)
      have HIK : Hid (In (p.A k) 0 1000000 ∧ In (p.B k) 0 1000000) := hik
      have sp : (pairT (p.A k) (p.B k)).size ≤ 201 := pairT_size hik.1 hik.2
      have sl := pT_size HN.out k (by rw [HE.out]; exact hk)
      unfold In at hik
      have s1 := numT_size (n := p.A k) (by omega) (by omega)
      have s2 := numT_size (n := p.B k) (by omega) (by omega)
      have r1 := add_run (numT (p.A k)) ⟨#[47]⟩ (by omega) (by show 1 ≤ _; omega)
      have r2 : ∀ W : World, (Op.stringOp .add (numT (p.A k) ++ ⟨#[47]⟩) (numT (p.B k))).run Tryd.prog W = .ok (.string (pairT (p.A k) (p.B k))) W := add_run (numT (p.A k) ++ ⟨#[47]⟩) (numT (p.B k)) (by rw [ByteArray.size_append]; show _ + 1 ≤ _; omega) (by omega)
      have HN1 : Hid (∀ W : World, Calls Tryd.prog 66 #[.int .i64 (p.A k)] W fun e w' => e = .returned (.string (numT (p.A k))) ∧ Below W.heap.size W w') := fun W => l1Num_any (by have := HIK.out.1.1; omega) (by have := HIK.out.1.2; omega) W
      have HN2 : Hid (∀ W : World, Calls Tryd.prog 66 #[.int .i64 (p.B k)] W fun e w' => e = .returned (.string (numT (p.B k))) ∧ Below W.heap.size W w') := fun W => l1Num_any (by have := HIK.out.2.1; omega) (by have := HIK.out.2.2; omega) W
      have lg := blk_lt hg
      have y0 : ∀ h : Grown wr, h.val.cell? ⟨g, 0, none⟩ = some (.int .i64 (p.A k)) := fun h => (h.bel.cell lg).trans (blk_cell hg 0 _ rfl)
      have y1 : ∀ h : Grown wr, h.val.cell? ⟨g, 1, none⟩ = some (.int .i64 (p.B k)) := fun h => (h.bel.cell lg).trans (blk_cell hg 1 _ rfl)
      clear hg hik
      obtain ⟨T, E0, hT⟩ : ∃ T, T ++ pairT (p.A k) (p.B k) = pT p (k + 1) ∧ ((¬ 0 < k ∧ T = pT p k) ∨ (0 < k ∧ T = pT p k ++ ⟨#[44]⟩)) := by
        by_cases c : 0 < k
        · exact ⟨pT p k ++ ⟨#[44]⟩, (show pT p k ++ ⟨#[44]⟩ ++ pairT (p.A k) (p.B k) = pT p (k + 1) from (pT_succ p k c).symm), .inr ⟨c, rfl⟩⟩
        · refine ⟨pT p k, ?_, .inl ⟨c, rfl⟩⟩
          have e : k = 0 := by omega
          subst e
          show pT p 0 ++ _ = pT p 1
          rw [pT_one]
          exact ByteArray.empty_append
      have E : Hid (T ++ pairT (p.A k) (p.B k) = pT p (k + 1)) := E0
      clear E0
      have sT : T.size ≤ 6007 := by
        rcases hT with ⟨_, rfl⟩ | ⟨_, rfl⟩
        · omega
        · rw [ByteArray.size_append]; show _ + 1 ≤ _; omega
      have r3 := add_run T (pairT (p.A k) (p.B k)) (by omega) (by omega)
      go_upto_if 17 with fail
      go_cut [3] (fun v wx => v = .string T ∧ wx = wr)
      case first =>
        rcases hT with ⟨c, hT⟩ | ⟨c, hT⟩
        · have dk : decide ((0 : Int) < (k : Int)) = false := decide_eq_false (by omega)
          have dk' : decide (0 < k) = false := decide_eq_false (by omega)
          have HTT : Hid (pT p k = T) := hT.symm
          clear hT
          go_wp2
          go_meet
          exact ⟨congrArg Value.string HTT.out, rfl⟩
        · have dk : decide ((0 : Int) < (k : Int)) = true := decide_eq_true (by omega)
          have dk' : decide (0 < k) = true := decide_eq_true (by omega)
          have r4 := add_run (pT p k) ⟨#[44]⟩ (by omega) (by show 1 ≤ _; omega)
          have HTT : Hid (pT p k ++ ⟨#[44]⟩ = T) := hT.symm
          clear hT
          go_wp2
          go_meet
          exact ⟨congrArg Value.string HTT.out, rfl⟩
      case rest =>
      obtain ⟨rfl, hwx⟩ := hcut
      have hwx := hwx.symm
      subst hwx
      clear hT hc
      go_upto_region 9 with fail
      refine wp_region_grow (by kernel_rfl) (by kernel_rfl) ?_
      repeat (first | go_big_quiet_skip | (go_big_quiet_want; go_big_quiet_op; first | go_big_quiet_on | (apply Exists.intro; refine ⟨fun g => ?_, ?_⟩; (focus (go_at_call 66; first | (with_reducible refine grown_call (v := .string (numT (p.A k))) (HN1.out _)) | (with_reducible refine grown_call (v := .string (numT (p.B k))) (HN2.out _)))); go_big_quiet_on)))
      refine wpQuiet_nil ?_
      rintro _ ⟨h, rfl⟩
      clear y0 y1
      go_wp2
      go_roundw
      case rel => exact ⟨k + 1, by omega, by go_num, by rw [← E.out], after hbel h.bel⟩
      case measure => simp [intOf]; omega
    · obtain rfl : n = k := by omega
      have ER : Hid (pT p n = pairsT p) := by show pT p n = pairsT p; unfold pairsT pT; rw [HE.out, if_neg h0]
      go_wp2
      go_ret
      exact ⟨congrArg (fun z => Ending.returned (Value.string z)) ER.out, hbel⟩

end Go.Proofs.YtfbooamjddnagaaDoor

namespace Go.Proofs.YtfbooamjddnagaaDoor
open Go.RowKit

/-- All but the lanes and cabins themselves. -/
def SailHead (x d a mo : Int) (fr tt : ByteArray) (n m : Nat) : Prop :=
  In x 1 99 ∧ IsName fr ∧ IsName tt ∧ fr ≠ tt ∧ In d 0 10000 ∧ In a (d + 1) 10000 ∧ n ≤ 4 ∧ m ≤ 6 ∧ In mo 0 500
theorem good_of_head {x d a mo : Int} {fr tt : ByteArray} {n m : Nat} {l1 l2 : Pairs} (e1 : l1.n = n) (e2 : l2.n = m) : GoodSail ⟨x, fr, tt, d, a, l1, l2, mo⟩ ↔ SailHead x d a mo fr tt n m ∧ (∀ k, k < n → In (l1.A k) 1 5000 ∧ In (l1.B k) 100 500) ∧ (∀ k, k < m → In (l2.A k) 1 3 ∧ In (l2.B k) 1 4) := by
  subst e1 e2
  unfold GoodSail SailHead GoodPairs In
  simp only
  constructor
  · rintro ⟨h1, h2, h3, h4, h5, h6, h7, h8, h9, h10⟩
    exact ⟨⟨h1, h2, h3, h4, ⟨h5, by omega⟩, ⟨by omega, h7⟩, h8.1, h9.1, h10⟩, h8.2, h9.2⟩
  · rintro ⟨⟨h1, h2, h3, h4, h5, h6, h7, h8, h9⟩, h10, h11⟩
    exact ⟨h1, h2, h3, h4, h5.1, by omega, h6.2, ⟨h7, h10⟩, ⟨h8, h11⟩, h9⟩

set_option maxHeartbeats 4000000 in
set_option maxRecDepth 100000 in
theorem specSailing_any (x d a mo : Int) (fr tt : ByteArray) (lo co : Option Addr) (n m c1 c2 : Nat) (l1 l2 : Pairs) (w : World) (e1 : l1.n = n) (e2 : l2.n = m) (hfr : fr.size ≤ 1000000000000000) (hto : tt.size ≤ 1000000000000000) (hn : n ≤ 1048576) (hm : m ≤ 1048576) (hx : PairsAt w lo l1) (hy : PairsAt w co l2) :
    Calls Tryd.prog 50 #[.agg #[.int .i64 x, .string fr, .string tt, .int .i64 d, .int .i64 a, .slice lo n c1, .slice co m c2, .int .i64 mo]] w fun e w' => SaysIf (GoodSail ⟨x, fr, tt, d, a, l1, l2, mo⟩) e ∧ Below w.heap.size w w' := by
  have hb0 : Below w.heap.size w (w.alloc (.cells #[.int .i64 x, .string fr, .string tt, .int .i64 d, .int .i64 a, .slice lo n c1, .slice co m c2, .int .i64 mo] 49)) := push (Below.refl _ _) _
  have A0 := heap_alloc_new w (.cells #[.int .i64 x, .string fr, .string tt, .int .i64 d, .int .i64 a, .slice lo n c1, .slice co m c2, .int .i64 mo] 49)
  have E1 : Hid (l1.n = n) := e1
  have E2 : Hid (l2.n = m) := e2
  have HG0 := good_of_head (x := x) (d := d) (a := a) (mo := mo) (fr := fr) (tt := tt) e1 e2
  have HG : Hid _ := HG0
  clear e1 e2 HG0
  by_cases g1 : In x 1 99
  case neg =>
    have fg1 : decide (In x 1 99) = false := decide_eq_false g1
    have HN : Hid (¬ GoodSail ⟨x, fr, tt, d, a, l1, l2, mo⟩) := fun h => g1 ((fun h => h.1) (HG.out.1 h).1)
    clear g1
    go_enter Tryd.func50, Tryd.ntmps50
    go_wp2_with (first | (go_at_call 27; refine (l1In_is _ _ _ _).mono ?_; rintro e w' ⟨rfl, hw'⟩; have hw' := hw'.symm; subst hw') | (go_at_call 64; refine (l1Name_is _ _ (by first | exact hfr | exact hto)).mono ?_; rintro e w' ⟨rfl, hw'⟩; have hw' := hw'.symm; subst hw'))
    go_ret
    exact ⟨says_no HN.out, hb0⟩
  have fg1 : decide (In x 1 99) = true := decide_eq_true g1
  by_cases g2 : IsName fr
  case neg =>
    have fg2 : decide (IsName fr) = false := decide_eq_false g2
    have HN : Hid (¬ GoodSail ⟨x, fr, tt, d, a, l1, l2, mo⟩) := fun h => g2 ((fun h => h.2.1) (HG.out.1 h).1)
    clear g1 g2
    go_enter Tryd.func50, Tryd.ntmps50
    go_wp2_with (first | (go_at_call 27; refine (l1In_is _ _ _ _).mono ?_; rintro e w' ⟨rfl, hw'⟩; have hw' := hw'.symm; subst hw') | (go_at_call 64; refine (l1Name_is _ _ (by first | exact hfr | exact hto)).mono ?_; rintro e w' ⟨rfl, hw'⟩; have hw' := hw'.symm; subst hw'))
    go_ret
    exact ⟨says_no HN.out, hb0⟩
  have fg2 : decide (IsName fr) = true := decide_eq_true g2
  by_cases g3 : IsName tt
  case neg =>
    have fg3 : decide (IsName tt) = false := decide_eq_false g3
    have HN : Hid (¬ GoodSail ⟨x, fr, tt, d, a, l1, l2, mo⟩) := fun h => g3 ((fun h => h.2.2.1) (HG.out.1 h).1)
    clear g1 g2 g3
    go_enter Tryd.func50, Tryd.ntmps50
    go_wp2_with (first | (go_at_call 27; refine (l1In_is _ _ _ _).mono ?_; rintro e w' ⟨rfl, hw'⟩; have hw' := hw'.symm; subst hw') | (go_at_call 64; refine (l1Name_is _ _ (by first | exact hfr | exact hto)).mono ?_; rintro e w' ⟨rfl, hw'⟩; have hw' := hw'.symm; subst hw'))
    go_ret
    exact ⟨says_no HN.out, hb0⟩
  have fg3 : decide (IsName tt) = true := decide_eq_true g3
  by_cases g4 : fr ≠ tt
  case neg =>
    have fg4 : (fr.toList == tt.toList) = true := bytes_eq.2 (by simpa using g4)
    have HN : Hid (¬ GoodSail ⟨x, fr, tt, d, a, l1, l2, mo⟩) := fun h => g4 ((fun h => h.2.2.2.1) (HG.out.1 h).1)
    clear g1 g2 g3 g4
    go_enter Tryd.func50, Tryd.ntmps50
    go_wp2_with (first | (go_at_call 27; refine (l1In_is _ _ _ _).mono ?_; rintro e w' ⟨rfl, hw'⟩; have hw' := hw'.symm; subst hw') | (go_at_call 64; refine (l1Name_is _ _ (by first | exact hfr | exact hto)).mono ?_; rintro e w' ⟨rfl, hw'⟩; have hw' := hw'.symm; subst hw'))
    go_ret
    exact ⟨says_no HN.out, hb0⟩
  have fg4 : (fr.toList == tt.toList) = false := bytes_ne.2 g4
  by_cases g5 : In d 0 10000
  case neg =>
    have fg5 : decide (In d 0 10000) = false := decide_eq_false g5
    have HN : Hid (¬ GoodSail ⟨x, fr, tt, d, a, l1, l2, mo⟩) := fun h => g5 ((fun h => h.2.2.2.2.1) (HG.out.1 h).1)
    clear g1 g2 g3 g4 g5
    go_enter Tryd.func50, Tryd.ntmps50
    go_wp2_with (first | (go_at_call 27; refine (l1In_is _ _ _ _).mono ?_; rintro e w' ⟨rfl, hw'⟩; have hw' := hw'.symm; subst hw') | (go_at_call 64; refine (l1Name_is _ _ (by first | exact hfr | exact hto)).mono ?_; rintro e w' ⟨rfl, hw'⟩; have hw' := hw'.symm; subst hw'))
    go_ret
    exact ⟨says_no HN.out, hb0⟩
  have fg5 : decide (In d 0 10000) = true := decide_eq_true g5
  have hwr : IntKind.i64.wrap (d + 1) = d + 1 := by have := g5.1; have := g5.2; rw [IntKind.wrap_i64]; omega
  by_cases g6 : In a (d + 1) 10000
  case neg =>
    have fg6 : decide (In a (d + 1) 10000) = false := decide_eq_false g6
    have HN : Hid (¬ GoodSail ⟨x, fr, tt, d, a, l1, l2, mo⟩) := fun h => g6 ((fun h => h.2.2.2.2.2.1) (HG.out.1 h).1)
    clear g1 g2 g3 g4 g5 g6
    go_enter Tryd.func50, Tryd.ntmps50
    go_wp2_with (first | (go_at_call 27; refine (l1In_is _ _ _ _).mono ?_; rintro e w' ⟨rfl, hw'⟩; have hw' := hw'.symm; subst hw') | (go_at_call 64; refine (l1Name_is _ _ (by first | exact hfr | exact hto)).mono ?_; rintro e w' ⟨rfl, hw'⟩; have hw' := hw'.symm; subst hw'))
    go_ret
    exact ⟨says_no HN.out, hb0⟩
  have fg6 : decide (In a (d + 1) 10000) = true := decide_eq_true g6
  by_cases g7 : n ≤ 4
  case neg =>
    have fg7 : decide (4 < n) = true := by simp; omega
    have HN : Hid (¬ GoodSail ⟨x, fr, tt, d, a, l1, l2, mo⟩) := fun h => g7 ((fun h => h.2.2.2.2.2.2.1) (HG.out.1 h).1)
    clear g1 g2 g3 g4 g5 g6
    go_enter Tryd.func50, Tryd.ntmps50
    go_wp2_with (first | (go_at_call 27; refine (l1In_is _ _ _ _).mono ?_; rintro e w' ⟨rfl, hw'⟩; have hw' := hw'.symm; subst hw') | (go_at_call 64; refine (l1Name_is _ _ (by first | exact hfr | exact hto)).mono ?_; rintro e w' ⟨rfl, hw'⟩; have hw' := hw'.symm; subst hw'))
    go_ret
    exact ⟨says_no HN.out, hb0⟩
  have fg7 : decide (4 < n) = false := by simp; omega
  by_cases g8 : m ≤ 6
  case neg =>
    have fg8 : decide (6 < m) = true := by simp; omega
    have HN : Hid (¬ GoodSail ⟨x, fr, tt, d, a, l1, l2, mo⟩) := fun h => g8 ((fun h => h.2.2.2.2.2.2.2.1) (HG.out.1 h).1)
    clear g1 g2 g3 g4 g5 g6
    go_enter Tryd.func50, Tryd.ntmps50
    go_wp2_with (first | (go_at_call 27; refine (l1In_is _ _ _ _).mono ?_; rintro e w' ⟨rfl, hw'⟩; have hw' := hw'.symm; subst hw') | (go_at_call 64; refine (l1Name_is _ _ (by first | exact hfr | exact hto)).mono ?_; rintro e w' ⟨rfl, hw'⟩; have hw' := hw'.symm; subst hw'))
    go_ret
    exact ⟨says_no HN.out, hb0⟩
  have fg8 : decide (6 < m) = false := by simp; omega
  by_cases g9 : In mo 0 500
  case neg =>
    have fg9 : decide (In mo 0 500) = false := decide_eq_false g9
    have HN : Hid (¬ GoodSail ⟨x, fr, tt, d, a, l1, l2, mo⟩) := fun h => g9 ((fun h => h.2.2.2.2.2.2.2.2) (HG.out.1 h).1)
    clear g1 g2 g3 g4 g5 g6 g9
    go_enter Tryd.func50, Tryd.ntmps50
    go_wp2_with (first | (go_at_call 27; refine (l1In_is _ _ _ _).mono ?_; rintro e w' ⟨rfl, hw'⟩; have hw' := hw'.symm; subst hw') | (go_at_call 64; refine (l1Name_is _ _ (by first | exact hfr | exact hto)).mono ?_; rintro e w' ⟨rfl, hw'⟩; have hw' := hw'.symm; subst hw'))
    go_ret
    exact ⟨says_no HN.out, hb0⟩
  have fg9 : decide (In mo 0 500) = true := decide_eq_true g9
  have HH : Hid (SailHead x d a mo fr tt n m) := ⟨g1, g2, g3, g4, g5, g6, g7, g8, g9⟩
  clear g1 g2 g3 g4 g5 g6 g9
  go_enter Tryd.func50, Tryd.ntmps50
  go_wp2_with (first | (go_at_call 27; refine (l1In_is _ _ _ _).mono ?_; rintro e w' ⟨rfl, hw'⟩; have hw' := hw'.symm; subst hw') | (go_at_call 64; refine (l1Name_is _ _ (by first | exact hfr | exact hto)).mono ?_; rintro e w' ⟨rfl, hw'⟩; have hw' := hw'.symm; subst hw'))
  go_loopw [4, 66] (fun _ i wr => ∃ k : Nat, k ≤ n ∧ i = .int .i64 k ∧ (∀ j, j < k → In (l1.A j) 1 5000 ∧ In (l1.B j) 100 500) ∧ Below (w.alloc (.cells #[.int .i64 x, .string fr, .string tt, .int .i64 d, .int .i64 a, .slice lo n c1, .slice co m c2, .int .i64 mo] 49)).heap.size (w.alloc (.cells #[.int .i64 x, .string fr, .string tt, .int .i64 d, .int .i64 a, .slice lo n c1, .slice co m c2, .int .i64 mo] 49)) wr) (fun _ i _ => n - (intOf i).toNat)
  case atStart => exact ⟨0, Nat.zero_le _, rfl, fun j hj => by omega, Below.refl _ _⟩
  case round =>
    obtain ⟨k, hk, rfl, hall, hbel⟩ := hrel
    have HA : Hid (∀ j, j < k → In (l1.A j) 1 5000 ∧ In (l1.B j) 100 500) := hall
    have A1 := blk_below A0 hbel
    have hbel2 := hbel
    have hb1 := after hb0 hbel
    clear hall fg1 fg2 fg3 fg4 fg5 fg6 fg7 fg8 fg9 hwr hb0 A0 hbel
    by_cases hlt : k < n
    · obtain ⟨b, off, rfl, h1, h2⟩ := hx k (by rw [E1.out]; omega)
      have hb := World.block_lt_of_cell? w _ h1
      have c1 := (hb1.cell (p := ⟨b, off + k * 2, none⟩) hb).trans h1
      have c2 := (hb1.cell (p := ⟨b, off + k * 2 + 1, none⟩) hb).trans h2
      clear h1 h2
      by_cases g1 : In (l1.A k) 1 5000
      · have e1 : decide (In (l1.A k) 1 5000) = true := decide_eq_true g1
        by_cases g2 : In (l1.B k) 100 500
        · have e2 : decide (In (l1.B k) 100 500) = true := decide_eq_true g2
          have HK : Hid (In (l1.A k) 1 5000 ∧ In (l1.B k) 100 500) := ⟨g1, g2⟩
          clear g1 g2
          go_wp2_with (first | (go_at_call 27; refine (l1In_is _ _ _ _).mono ?_; rintro e w' ⟨rfl, hw'⟩; have hw' := hw'.symm; subst hw'))
          go_roundw
          case rel => exact ⟨k + 1, by omega, by go_num, fun j hj => by
            by_cases e : j = k
            · subst e; exact HK.out
            · exact HA.out j (by omega), push hbel2 _⟩
          case measure => simp [intOf]; omega
        · have e2 : decide (In (l1.B k) 100 500) = false := decide_eq_false g2
          have HK : Hid (¬ In (l1.B k) 100 500) := g2
          clear g1 g2
          go_wp2_with (first | (go_at_call 27; refine (l1In_is _ _ _ _).mono ?_; rintro e w' ⟨rfl, hw'⟩; have hw' := hw'.symm; subst hw'))
          go_ret
          exact ⟨says_no (fun h => HK.out ((HG.out.1 h).2.1 k hlt).2), push hb1 _⟩
      · have e1 : decide (In (l1.A k) 1 5000) = false := decide_eq_false g1
        have HK : Hid (¬ In (l1.A k) 1 5000) := g1
        clear g1
        go_wp2_with (first | (go_at_call 27; refine (l1In_is _ _ _ _).mono ?_; rintro e w' ⟨rfl, hw'⟩; have hw' := hw'.symm; subst hw'))
        go_ret
        exact ⟨says_no (fun h => HK.out ((HG.out.1 h).2.1 k hlt).1), push hb1 _⟩
    · obtain rfl : k = n := by omega
      have q6 := blk_cell A1 6 _ rfl
      go_wp2
      go_loopw [6, 84] (fun _ i wx => ∃ k : Nat, k ≤ m ∧ i = .int .i64 k ∧ (∀ j, j < k → In (l2.A j) 1 3 ∧ In (l2.B j) 1 4) ∧ Below w.heap.size w wx) (fun _ i _ => m - (intOf i).toNat)
      case atStart => exact ⟨0, Nat.zero_le _, rfl, fun j hj => by omega, hb1⟩
      case round =>
        obtain ⟨q, hq, rfl, hall, hbq⟩ := hrel
        have HB : Hid (∀ j, j < q → In (l2.A j) 1 3 ∧ In (l2.B j) 1 4) := hall
        clear hall q6 A1 hb1
        by_cases hlt2 : q < m
        · obtain ⟨b, off, rfl, h1, h2⟩ := hy q (by rw [E2.out]; omega)
          have hb := World.block_lt_of_cell? w _ h1
          have c1 := (hbq.cell (p := ⟨b, off + q * 2, none⟩) hb).trans h1
          have c2 := (hbq.cell (p := ⟨b, off + q * 2 + 1, none⟩) hb).trans h2
          clear h1 h2
          by_cases g1 : In (l2.A q) 1 3
          · have e1 : decide (In (l2.A q) 1 3) = true := decide_eq_true g1
            by_cases g2 : In (l2.B q) 1 4
            · have e2 : decide (In (l2.B q) 1 4) = true := decide_eq_true g2
              have HK : Hid (In (l2.A q) 1 3 ∧ In (l2.B q) 1 4) := ⟨g1, g2⟩
              clear g1 g2
              go_wp2_with (first | (go_at_call 27; refine (l1In_is _ _ _ _).mono ?_; rintro e w' ⟨rfl, hw'⟩; have hw' := hw'.symm; subst hw'))
              go_roundw
              case rel => exact ⟨q + 1, by omega, by go_num, fun j hj => by
                by_cases e : j = q
                · subst e; exact HK.out
                · exact HB.out j (by omega), push hbq _⟩
              case measure => simp [intOf]; omega
            · have e2 : decide (In (l2.B q) 1 4) = false := decide_eq_false g2
              have HK : Hid (¬ In (l2.B q) 1 4) := g2
              clear g1 g2
              go_wp2_with (first | (go_at_call 27; refine (l1In_is _ _ _ _).mono ?_; rintro e w' ⟨rfl, hw'⟩; have hw' := hw'.symm; subst hw'))
              go_ret
              exact ⟨says_no (fun h => HK.out ((HG.out.1 h).2.2 q hlt2).2), push hbq _⟩
          · have e1 : decide (In (l2.A q) 1 3) = false := decide_eq_false g1
            have HK : Hid (¬ In (l2.A q) 1 3) := g1
            clear g1
            go_wp2_with (first | (go_at_call 27; refine (l1In_is _ _ _ _).mono ?_; rintro e w' ⟨rfl, hw'⟩; have hw' := hw'.symm; subst hw'))
            go_ret
            exact ⟨says_no (fun h => HK.out ((HG.out.1 h).2.2 q hlt2).1), push hbq _⟩
        · obtain rfl : q = m := by omega
          go_wp2
          go_ret
          exact ⟨says_yes (HG.out.2 ⟨HH.out, HA.out, HB.out⟩), hbq⟩

end Go.Proofs.YtfbooamjddnagaaDoor

namespace Go.Proofs.YtfbooamjddnagaaDoor
open Go.RowKit

theorem Tryd.infoIntS' : (Tryd.prog.info? 22).map (fun i => (i.zero, i.size, i.bytes)) = some (some (.slice none 0 0), 1, 24) := by kernel_rfl
/-- Lists of two numbers in a row of one's own, the first k of them. -/
structure PSt (w wx : World) (v : Value) (p : Pairs) (k : Nat) (g : Nat → Nat) : Prop where
  own : wx.ownsRow w.heap.size 22 1 v k ((List.range k).map (fun i => .slice (some ⟨g i, 0, none⟩) 2 2))
  el : ∀ i, i < k → wx.heap[g i]? = some (.cells #[.int .i64 (p.A i), .int .i64 (p.B i)] 3 (0, 0))
theorem PSt.below {w wx wy : World} {v : Value} {p : Pairs} {k : Nat} {g : Nat → Nat} (h : PSt w wx v p k g) (hb : Below wx.heap.size wx wy) : PSt w wy v p k g := ⟨own_below hb h.own, fun i hi => blk_below (h.el i hi) hb⟩
theorem PSt.app {w wx wy : World} {v v' : Value} {p : Pairs} {k m : Nat} {g : Nat → Nat} (h : PSt w wx v p k g) (hm : wx.heap[m]? = some (.cells #[.int .i64 (p.A k), .int .i64 (p.B k)] 3 (0, 0))) (hg : wx.grownBy wy v.ownBlock)
    (ho : wy.ownsRow w.heap.size 22 1 v' (k + 1) ((List.range k).map (fun i => Value.slice (some ⟨g i, 0, none⟩) 2 2) ++ [.slice (some ⟨m, 0, none⟩) 2 2])) : PSt w wy v' p (k + 1) (fun i => if i = k then m else g i) := by
  refine ⟨?_, fun i hi => ?_⟩
  · have e : (List.range (k + 1)).map (fun i => Value.slice (some ⟨(if i = k then m else g i), 0, none⟩) 2 2) = (List.range k).map (fun i => Value.slice (some ⟨g i, 0, none⟩) 2 2) ++ [.slice (some ⟨m, 0, none⟩) 2 2] := by
      rw [List.range_succ, List.map_append, List.map_cons, List.map_nil, if_pos rfl]
      congr 1
      refine List.map_congr_left fun i hi => ?_
      have : i < k := by simpa using hi
      rw [if_neg (by omega)]
    rw [e]
    exact ho
  · by_cases e : i = k
    · subst e
      rw [if_pos rfl]
      exact (kept_row hg).blk hm (fun e => own_notT h.own hm (by decide) _ e rfl)
    · rw [if_neg e]
      exact (kept_row hg).blk (h.el i (by omega)) (fun e' => own_notT h.own (h.el i (by omega)) (by decide) _ e' rfl)
theorem PSt.rows {w wx : World} {ao : Option Addr} {c : Nat} {p : Pairs} {g : Nat → Nat} (h : PSt w wx (.slice ao p.n c) p p.n g) : PRows wx ao p := fun k hk => by
  obtain ⟨b, rfl, _, _⟩ := own_addr h.own (by omega)
  refine ⟨b, 0, g k, rfl, ?_, h.el k hk⟩
  rw [Nat.zero_add]
  exact own_cell h.own k (by omega) (by omega)
theorem text_all (s : Sail) : (⟨#[115, 97, 105, 108, 32]⟩ : ByteArray) ++ numT s.id ++ ⟨#[32]⟩ ++ s.fr ++ ⟨#[32]⟩ ++ s.dst ++ ⟨#[32]⟩ ++ numT s.dep ++ ⟨#[32]⟩ ++ numT s.arr ++ ⟨#[32]⟩ ++ numT s.most ++ ⟨#[32]⟩ ++ pairsT s.la ++ ⟨#[32]⟩ ++ pairsT s.ca = sailT s := by
  have key : ∀ (l : List ByteArray) (p : ByteArray), l ≠ [] → joinT spT (l ++ [p]) = joinT spT l ++ (⟨#[32]⟩ ++ p) := fun l p hl => joinT_snoc spT p hl
  unfold sailT sailP
  rw [show [sailW, numT s.id, s.fr, s.dst, numT s.dep, numT s.arr, numT s.most, pairsT s.la, pairsT s.ca] = ((((((([sailW] ++ [numT s.id]) ++ [s.fr]) ++ [s.dst]) ++ [numT s.dep]) ++ [numT s.arr]) ++ [numT s.most]) ++ [pairsT s.la]) ++ [pairsT s.ca] from rfl,
    key _ _ (by simp), key _ _ (by simp), key _ _ (by simp), key _ _ (by simp), key _ _ (by simp), key _ _ (by simp), key _ _ (by simp), key _ _ (by simp), joinT_one]
  rw [show (⟨#[115, 97, 105, 108, 32]⟩ : ByteArray) = sailW ++ ⟨#[32]⟩ from rfl]
  simp only [ByteArray.append_assoc]

set_option maxHeartbeats 6400000 in
set_option maxRecDepth 100000 in
theorem l11Sail_any (s : Sail) (lo co : Option Addr) (c1 c2 : Nat) (w : World) (hs : GoodSail s) (hx : PairsAt w lo s.la) (hy : PairsAt w co s.ca) :
    Calls Tryd.prog 51 #[.agg #[.int .i64 s.id, .string s.fr, .string s.dst, .int .i64 s.dep, .int .i64 s.arr, .slice lo s.la.n c1, .slice co s.ca.n c2, .int .i64 s.most]] w fun e w' => e = .returned (.string (sailT s)) ∧ Below w.heap.size w w' := by
  have HG : Hid (GoodSail s) := hs
  have HXY : Hid (PairsAt w lo s.la ∧ PairsAt w co s.ca) := ⟨hx, hy⟩
  obtain ⟨na, hna⟩ : ∃ n, n = s.la.n := ⟨_, rfl⟩
  obtain ⟨nb, hnb⟩ : ∃ n, n = s.ca.n := ⟨_, rfl⟩
  have HNA : Hid (s.la.n = na ∧ s.ca.n = nb) := ⟨hna.symm, hnb.symm⟩
  have n6 : na ≤ 6 ∧ nb ≤ 6 := ⟨by rw [hna]; exact (small_la hs).1, by rw [hnb]; exact (small_ca hs).1⟩
  obtain ⟨j0, ji, jz0, jz1, jz2⟩ := info_parts Tryd.infoIntS'
  rw [← hna, ← hnb]
  clear hs hx hy hna hnb
  have hb0 : Below w.heap.size w (w.alloc (.cells #[.int .i64 s.id, .string s.fr, .string s.dst, .int .i64 s.dep, .int .i64 s.arr, .slice lo na c1, .slice co nb c2, .int .i64 s.most] 49)) := push (Below.refl _ _) _
  have b0 := heap_alloc_new w (.cells #[.int .i64 s.id, .string s.fr, .string s.dst, .int .i64 s.dep, .int .i64 s.arr, .slice lo na c1, .slice co nb c2, .int .i64 s.most] 49)
  go_enter Tryd.func51, Tryd.ntmps51
  go_upto_region 1 with fail
  generalize w.alloc (.cells #[.int .i64 s.id, .string s.fr, .string s.dst, .int .i64 s.dep, .int .i64 s.arr, .slice lo na c1, .slice co nb c2, .int .i64 s.most] 49) = W at hb0 b0 ⊢
  have HB0 : Hid (Below w.heap.size w W) := hb0
  have B0 : Hid (W.heap[w.heap.size]? = _) := b0
  have y5 := blk_cell b0 5 _ rfl
  have H0 : Hid (PSt W W (.slice none 0 0) s.la 0 (fun _ => 0)) := ⟨World.ownsRow_nil _ _ _ _, fun i hi => by omega⟩
  clear b0 hb0
  go_wp2
  go_loopw [3, 6, 12] (fun v _ i wr => ∃ (k : Nat) (g : Nat → Nat), k ≤ na ∧ i = .int .i64 k ∧ Hid (PSt W wr v s.la k g ∧ Below W.heap.size W wr)) (fun _ _ i _ => na - (intOf i).toNat)
  case atStart => exact ⟨0, _, Nat.zero_le _, rfl, H0.out, Below.refl _ _⟩
  case round =>
    obtain ⟨k, g, hk, rfl, HR⟩ := hrel
    clear H0
    by_cases hlt : k < na
    · obtain ⟨b, off, rfl, hc, hd⟩ := (HXY.out.1.below HB0.out) k (by rw [HNA.out.1]; exact hlt)
      have hc' : wr.cell? ⟨b, off + k * 2, none⟩ = some (.int .i64 (s.la.A k)) := (HR.out.2.cell (World.block_lt_of_cell? W _ hc)).trans hc
      have hd' : wr.cell? ⟨b, off + k * 2 + 1, none⟩ = some (.int .i64 (s.la.B k)) := (HR.out.2.cell (World.block_lt_of_cell? W _ hd)).trans hd
      clear hc hd
      obtain ⟨va, vc, rfl, _⟩ := own_form HR.out.1.own
      have bl := heap_alloc_new wr (.cells #[.int .i64 (s.la.A k), .int .i64 (s.la.B k)] 89)
      have HR1 : Hid (PSt W (wr.alloc (.cells #[.int .i64 (s.la.A k), .int .i64 (s.la.B k)] 89)) (.slice va k vc) s.la k g ∧ Below W.heap.size W (wr.alloc (.cells #[.int .i64 (s.la.A k), .int .i64 (s.la.B k)] 89))) := ⟨HR.out.1.below (push (Below.refl _ _) _), push HR.out.2 _⟩
      go_upto_region 5 with fail
      generalize wr.alloc (.cells #[.int .i64 (s.la.A k), .int .i64 (s.la.B k)] 89) = W1 at bl HR1 ⊢
      have z0 := blk_cell bl 0 _ rfl
      have z1 := blk_cell bl 1 _ rfl
      clear HR hc' hd' bl
      have HR3 : Hid (PSt W ((W1.alloc (.cells #[.int .i64 (s.la.A k), .int .i64 (s.la.B k)] 3)).alloc (.cells #[.slice (some ⟨W1.heap.size, 0, none⟩) 2 2] 22)) (.slice va k vc) s.la k g ∧ Below W.heap.size W ((W1.alloc (.cells #[.int .i64 (s.la.A k), .int .i64 (s.la.B k)] 3)).alloc (.cells #[.slice (some ⟨W1.heap.size, 0, none⟩) 2 2] 22))) := ⟨HR1.out.1.below (push (push (Below.refl _ _) _) _), push (push HR1.out.2 _) _⟩
      have HM : Hid (((W1.alloc (.cells #[.int .i64 (s.la.A k), .int .i64 (s.la.B k)] 3)).alloc (.cells #[.slice (some ⟨W1.heap.size, 0, none⟩) 2 2] 22)).heap[W1.heap.size]? = some (.cells #[.int .i64 (s.la.A k), .int .i64 (s.la.B k)] 3 (0, 0))) := blk_alloc (heap_alloc_new W1 _) _
      have hsz := HR3.out.2.size
      have hw1 : (W1.alloc (.cells #[.int .i64 (s.la.A k), .int .i64 (s.la.B k)] 3)).heap.size = W1.heap.size + 1 := by simp
      have HNW : Hid (∀ j u, [Value.slice (some ⟨W1.heap.size, 0, none⟩) 2 2][j]? = some u → ((W1.alloc (.cells #[.int .i64 (s.la.A k), .int .i64 (s.la.B k)] 3)).alloc (.cells #[.slice (some ⟨W1.heap.size, 0, none⟩) 2 2] 22)).cell? ((⟨W1.heap.size + 1, 0, none⟩ : Addr).add j) = some u) := by
        have := World.news_of_block (heap_alloc_new (W1.alloc (.cells #[.int .i64 (s.la.A k), .int .i64 (s.la.B k)] 3)) (.cells #[.slice (some ⟨W1.heap.size, 0, none⟩) 2 2] 22))
        rw [hw1] at this
        exact this
      clear HR1
      go_wp2_with (first | (at_builtin; refine wpList_append_any _ (by rfl) (.tmp 16) (.tmp 22) 86 (by rfl) W.heap.size 22 j0 (.slice none 0 0) 1 24 Tryd.underlying86 ji jz0 jz1 jz2 rfl (by decide) _ k ((List.range k).map (fun i => Value.slice (some ⟨g i, 0, none⟩) 2 2)) (by rfl) HR3.out.1.own (some ⟨W1.heap.size + 1, 0, none⟩) 1 1 [.slice (some ⟨W1.heap.size, 0, none⟩) 2 2] (by rfl) (fun h => by cases h) (by rfl) (fun ad h => by cases h; exact HNW.out) (by intro u hu; simp only [List.mem_cons, List.not_mem_nil, or_false] at hu; subst hu; rfl) (by unfold maxLen; omega) (by omega) hsz ?_; intro v9 w9 ho9 hg9))
      have HN9 : Hid (PSt W w9 v9 s.la (k + 1) (fun i => if i = k then W1.heap.size else g i) ∧ Below W.heap.size W w9) := ⟨HR3.out.1.app HM.out hg9 ho9, HR3.out.2.grown hg9 hsz (fun j hj => (World.ownsRow.lt HR3.out.1.own j hj).1)⟩
      clear HR3 HM HNW hsz hw1 z0 z1 ho9 hg9
      go_roundw
      case rel => exact ⟨k + 1, _, by omega, by go_num, HN9.out⟩
      case measure => simp [intOf]; omega
    · obtain rfl : na = k := by omega
      clear y5
      obtain ⟨va, vc, rfl, _⟩ := own_form HR.out.1.own
      have HPA : Hid (PRows wr va s.la) := by
        have h := HR.out.1
        rw [← HNA.out.1] at h
        exact h.rows
      have HBW : Hid (Below w.heap.size w wr) := after HB0.out HR.out.2
      have b2 := blk_below B0.out HR.out.2
      clear HR B0 HB0
      obtain ⟨W2, hW2⟩ : ∃ z, z = wr := ⟨_, rfl⟩
      subst hW2
      have y6 := blk_cell b2 6 _ rfl
      have B2 : Hid (W2.heap[w.heap.size]? = _) := b2
      clear b2
      have H0 : Hid (PSt W2 W2 (.slice none 0 0) s.ca 0 (fun _ => 0)) := ⟨World.ownsRow_nil _ _ _ _, fun i hi => by omega⟩
      go_wp2
      go_loopw [4, 8, 28] (fun v _ i wr => ∃ (k : Nat) (g : Nat → Nat), k ≤ nb ∧ i = .int .i64 k ∧ Hid (PSt W2 wr v s.ca k g ∧ Below W2.heap.size W2 wr)) (fun _ _ i _ => nb - (intOf i).toNat)
      case atStart => exact ⟨0, _, Nat.zero_le _, rfl, H0.out, Below.refl _ _⟩
      case round =>
        obtain ⟨k, g, hk, rfl, HR⟩ := hrel
        clear H0
        by_cases hlt : k < nb
        · obtain ⟨b, off, rfl, hc, hd⟩ := (HXY.out.2.below HBW.out) k (by rw [HNA.out.2]; exact hlt)
          have hc' : wr.cell? ⟨b, off + k * 2, none⟩ = some (.int .i64 (s.ca.A k)) := (HR.out.2.cell (World.block_lt_of_cell? W2 _ hc)).trans hc
          have hd' : wr.cell? ⟨b, off + k * 2 + 1, none⟩ = some (.int .i64 (s.ca.B k)) := (HR.out.2.cell (World.block_lt_of_cell? W2 _ hd)).trans hd
          clear hc hd
          obtain ⟨va, vc, rfl, _⟩ := own_form HR.out.1.own
          have bl := heap_alloc_new wr (.cells #[.int .i64 (s.ca.A k), .int .i64 (s.ca.B k)] 91)
          have HR1 : Hid (PSt W2 (wr.alloc (.cells #[.int .i64 (s.ca.A k), .int .i64 (s.ca.B k)] 91)) (.slice va k vc) s.ca k g ∧ Below W2.heap.size W2 (wr.alloc (.cells #[.int .i64 (s.ca.A k), .int .i64 (s.ca.B k)] 91))) := ⟨HR.out.1.below (push (Below.refl _ _) _), push HR.out.2 _⟩
          go_upto_region 10 with fail
          generalize wr.alloc (.cells #[.int .i64 (s.ca.A k), .int .i64 (s.ca.B k)] 91) = W1 at bl HR1 ⊢
          have z0 := blk_cell bl 0 _ rfl
          have z1 := blk_cell bl 1 _ rfl
          clear HR hc' hd' bl
          have HR3 : Hid (PSt W2 ((W1.alloc (.cells #[.int .i64 (s.ca.A k), .int .i64 (s.ca.B k)] 3)).alloc (.cells #[.slice (some ⟨W1.heap.size, 0, none⟩) 2 2] 22)) (.slice va k vc) s.ca k g ∧ Below W2.heap.size W2 ((W1.alloc (.cells #[.int .i64 (s.ca.A k), .int .i64 (s.ca.B k)] 3)).alloc (.cells #[.slice (some ⟨W1.heap.size, 0, none⟩) 2 2] 22))) := ⟨HR1.out.1.below (push (push (Below.refl _ _) _) _), push (push HR1.out.2 _) _⟩
          have HM : Hid (((W1.alloc (.cells #[.int .i64 (s.ca.A k), .int .i64 (s.ca.B k)] 3)).alloc (.cells #[.slice (some ⟨W1.heap.size, 0, none⟩) 2 2] 22)).heap[W1.heap.size]? = some (.cells #[.int .i64 (s.ca.A k), .int .i64 (s.ca.B k)] 3 (0, 0))) := blk_alloc (heap_alloc_new W1 _) _
          have hsz := HR3.out.2.size
          have hw1 : (W1.alloc (.cells #[.int .i64 (s.ca.A k), .int .i64 (s.ca.B k)] 3)).heap.size = W1.heap.size + 1 := by simp
          have HNW : Hid (∀ j u, [Value.slice (some ⟨W1.heap.size, 0, none⟩) 2 2][j]? = some u → ((W1.alloc (.cells #[.int .i64 (s.ca.A k), .int .i64 (s.ca.B k)] 3)).alloc (.cells #[.slice (some ⟨W1.heap.size, 0, none⟩) 2 2] 22)).cell? ((⟨W1.heap.size + 1, 0, none⟩ : Addr).add j) = some u) := by
            have := World.news_of_block (heap_alloc_new (W1.alloc (.cells #[.int .i64 (s.ca.A k), .int .i64 (s.ca.B k)] 3)) (.cells #[.slice (some ⟨W1.heap.size, 0, none⟩) 2 2] 22))
            rw [hw1] at this
            exact this
          clear HR1
          go_wp2_with (first | (at_builtin; refine wpList_append_any _ (by rfl) (.tmp 32) (.tmp 38) 86 (by rfl) W2.heap.size 22 j0 (.slice none 0 0) 1 24 Tryd.underlying86 ji jz0 jz1 jz2 rfl (by decide) _ k ((List.range k).map (fun i => Value.slice (some ⟨g i, 0, none⟩) 2 2)) (by rfl) HR3.out.1.own (some ⟨W1.heap.size + 1, 0, none⟩) 1 1 [.slice (some ⟨W1.heap.size, 0, none⟩) 2 2] (by rfl) (fun h => by cases h) (by rfl) (fun ad h => by cases h; exact HNW.out) (by intro u hu; simp only [List.mem_cons, List.not_mem_nil, or_false] at hu; subst hu; rfl) (by unfold maxLen; omega) (by omega) hsz ?_; intro v9 w9 ho9 hg9))
          have HN9 : Hid (PSt W2 w9 v9 s.ca (k + 1) (fun i => if i = k then W1.heap.size else g i) ∧ Below W2.heap.size W2 w9) := ⟨HR3.out.1.app HM.out hg9 ho9, HR3.out.2.grown hg9 hsz (fun j hj => (World.ownsRow.lt HR3.out.1.own j hj).1)⟩
          clear HR3 HM HNW hsz hw1 z0 z1 ho9 hg9
          go_roundw
          case rel => exact ⟨k + 1, _, by omega, by go_num, HN9.out⟩
          case measure => simp [intOf]; omega
        · obtain rfl : nb = k := by omega
          clear y6
          obtain ⟨vb, vd, rfl, _⟩ := own_form HR.out.1.own
          have HPB : Hid (PRows wr vb s.ca) := by
            have h := HR.out.1
            rw [← HNA.out.2] at h
            exact h.rows
          have HPA' : Hid (PRows wr va s.la) := HPA.out.below HR.out.2
          have HBF : Hid (Below w.heap.size w wr) := after HBW.out HR.out.2
          have b3 := blk_below B2.out HR.out.2
          clear HR HPA HBW B2
          have lA := blk_lt b3
          have x0 : ∀ h : Grown wr, h.val.cell? ⟨w.heap.size, 0, none⟩ = some (.int .i64 s.id) := fun h => (h.bel.cell lA).trans (blk_cell b3 0 _ rfl)
          have x1 : ∀ h : Grown wr, h.val.cell? ⟨w.heap.size, 1, none⟩ = some (.string s.fr) := fun h => (h.bel.cell lA).trans (blk_cell b3 1 _ rfl)
          have x2 : ∀ h : Grown wr, h.val.cell? ⟨w.heap.size, 2, none⟩ = some (.string s.dst) := fun h => (h.bel.cell lA).trans (blk_cell b3 2 _ rfl)
          have x3 : ∀ h : Grown wr, h.val.cell? ⟨w.heap.size, 3, none⟩ = some (.int .i64 s.dep) := fun h => (h.bel.cell lA).trans (blk_cell b3 3 _ rfl)
          have x4 : ∀ h : Grown wr, h.val.cell? ⟨w.heap.size, 4, none⟩ = some (.int .i64 s.arr) := fun h => (h.bel.cell lA).trans (blk_cell b3 4 _ rfl)
          have x7 : ∀ h : Grown wr, h.val.cell? ⟨w.heap.size, 7, none⟩ = some (.int .i64 s.most) := fun h => (h.bel.cell lA).trans (blk_cell b3 7 _ rfl)
          clear b3
          have HRG : Hid _ := sail_rng HG.out
          have rg := HRG.out
          have m0 := numT_size (n := s.id) (by omega) (by omega)
          have m1 := numT_size (n := s.dep) (by omega) (by omega)
          have m2 := numT_size (n := s.arr) (by omega) (by omega)
          have m3 := numT_size (n := s.most) (by omega) (by omega)
          have m4 := pairsT_size (small_la HG.out)
          have m5 := pairsT_size (small_ca HG.out)
          have q1 : (⟨#[32]⟩ : ByteArray).size = 1 := rfl
          have q2 : (⟨#[115, 97, 105, 108, 32]⟩ : ByteArray).size = 5 := rfl
          have m6 := rg.2.2.2.2.1
          have m7 := rg.2.2.2.2.2
          have EF := text_all s
          obtain ⟨a1, ha1⟩ : ∃ z, z = (⟨#[115, 97, 105, 108, 32]⟩ : ByteArray) ++ (numT s.id) := ⟨_, rfl⟩
          have z1 : a1.size ≤ 1 * 7000 := by rw [ha1, ByteArray.size_append]; omega
          have r1 : ∀ W : World, (Op.stringOp .add ⟨#[115, 97, 105, 108, 32]⟩ (numT s.id)).run Tryd.prog W = .ok (.string a1) W := by rw [ha1]; exact add_run _ _ (by omega) (by omega)
          rw [← ha1] at EF
          clear ha1
          obtain ⟨a2, ha2⟩ : ∃ z, z = a1 ++ ⟨#[32]⟩ := ⟨_, rfl⟩
          have z2 : a2.size ≤ 2 * 7000 := by rw [ha2, ByteArray.size_append]; omega
          have r2 : ∀ W : World, (Op.stringOp .add a1 ⟨#[32]⟩).run Tryd.prog W = .ok (.string a2) W := by rw [ha2]; exact add_run _ _ (by omega) (by omega)
          rw [← ha2] at EF
          clear ha2
          obtain ⟨a3, ha3⟩ : ∃ z, z = a2 ++ s.fr := ⟨_, rfl⟩
          have z3 : a3.size ≤ 3 * 7000 := by rw [ha3, ByteArray.size_append]; omega
          have r3 : ∀ W : World, (Op.stringOp .add a2 s.fr).run Tryd.prog W = .ok (.string a3) W := by rw [ha3]; exact add_run _ _ (by omega) (by omega)
          rw [← ha3] at EF
          clear ha3
          obtain ⟨a4, ha4⟩ : ∃ z, z = a3 ++ ⟨#[32]⟩ := ⟨_, rfl⟩
          have z4 : a4.size ≤ 4 * 7000 := by rw [ha4, ByteArray.size_append]; omega
          have r4 : ∀ W : World, (Op.stringOp .add a3 ⟨#[32]⟩).run Tryd.prog W = .ok (.string a4) W := by rw [ha4]; exact add_run _ _ (by omega) (by omega)
          rw [← ha4] at EF
          clear ha4
          obtain ⟨a5, ha5⟩ : ∃ z, z = a4 ++ s.dst := ⟨_, rfl⟩
          have z5 : a5.size ≤ 5 * 7000 := by rw [ha5, ByteArray.size_append]; omega
          have r5 : ∀ W : World, (Op.stringOp .add a4 s.dst).run Tryd.prog W = .ok (.string a5) W := by rw [ha5]; exact add_run _ _ (by omega) (by omega)
          rw [← ha5] at EF
          clear ha5
          obtain ⟨a6, ha6⟩ : ∃ z, z = a5 ++ ⟨#[32]⟩ := ⟨_, rfl⟩
          have z6 : a6.size ≤ 6 * 7000 := by rw [ha6, ByteArray.size_append]; omega
          have r6 : ∀ W : World, (Op.stringOp .add a5 ⟨#[32]⟩).run Tryd.prog W = .ok (.string a6) W := by rw [ha6]; exact add_run _ _ (by omega) (by omega)
          rw [← ha6] at EF
          clear ha6
          obtain ⟨a7, ha7⟩ : ∃ z, z = a6 ++ (numT s.dep) := ⟨_, rfl⟩
          have z7 : a7.size ≤ 7 * 7000 := by rw [ha7, ByteArray.size_append]; omega
          have r7 : ∀ W : World, (Op.stringOp .add a6 (numT s.dep)).run Tryd.prog W = .ok (.string a7) W := by rw [ha7]; exact add_run _ _ (by omega) (by omega)
          rw [← ha7] at EF
          clear ha7
          obtain ⟨a8, ha8⟩ : ∃ z, z = a7 ++ ⟨#[32]⟩ := ⟨_, rfl⟩
          have z8 : a8.size ≤ 8 * 7000 := by rw [ha8, ByteArray.size_append]; omega
          have r8 : ∀ W : World, (Op.stringOp .add a7 ⟨#[32]⟩).run Tryd.prog W = .ok (.string a8) W := by rw [ha8]; exact add_run _ _ (by omega) (by omega)
          rw [← ha8] at EF
          clear ha8
          obtain ⟨a9, ha9⟩ : ∃ z, z = a8 ++ (numT s.arr) := ⟨_, rfl⟩
          have z9 : a9.size ≤ 9 * 7000 := by rw [ha9, ByteArray.size_append]; omega
          have r9 : ∀ W : World, (Op.stringOp .add a8 (numT s.arr)).run Tryd.prog W = .ok (.string a9) W := by rw [ha9]; exact add_run _ _ (by omega) (by omega)
          rw [← ha9] at EF
          clear ha9
          obtain ⟨a10, ha10⟩ : ∃ z, z = a9 ++ ⟨#[32]⟩ := ⟨_, rfl⟩
          have z10 : a10.size ≤ 10 * 7000 := by rw [ha10, ByteArray.size_append]; omega
          have r10 : ∀ W : World, (Op.stringOp .add a9 ⟨#[32]⟩).run Tryd.prog W = .ok (.string a10) W := by rw [ha10]; exact add_run _ _ (by omega) (by omega)
          rw [← ha10] at EF
          clear ha10
          obtain ⟨a11, ha11⟩ : ∃ z, z = a10 ++ (numT s.most) := ⟨_, rfl⟩
          have z11 : a11.size ≤ 11 * 7000 := by rw [ha11, ByteArray.size_append]; omega
          have r11 : ∀ W : World, (Op.stringOp .add a10 (numT s.most)).run Tryd.prog W = .ok (.string a11) W := by rw [ha11]; exact add_run _ _ (by omega) (by omega)
          rw [← ha11] at EF
          clear ha11
          obtain ⟨a12, ha12⟩ : ∃ z, z = a11 ++ ⟨#[32]⟩ := ⟨_, rfl⟩
          have z12 : a12.size ≤ 12 * 7000 := by rw [ha12, ByteArray.size_append]; omega
          have r12 : ∀ W : World, (Op.stringOp .add a11 ⟨#[32]⟩).run Tryd.prog W = .ok (.string a12) W := by rw [ha12]; exact add_run _ _ (by omega) (by omega)
          rw [← ha12] at EF
          clear ha12
          obtain ⟨a13, ha13⟩ : ∃ z, z = a12 ++ (pairsT s.la) := ⟨_, rfl⟩
          have z13 : a13.size ≤ 13 * 7000 := by rw [ha13, ByteArray.size_append]; omega
          have r13 : ∀ W : World, (Op.stringOp .add a12 (pairsT s.la)).run Tryd.prog W = .ok (.string a13) W := by rw [ha13]; exact add_run _ _ (by omega) (by omega)
          rw [← ha13] at EF
          clear ha13
          obtain ⟨a14, ha14⟩ : ∃ z, z = a13 ++ ⟨#[32]⟩ := ⟨_, rfl⟩
          have z14 : a14.size ≤ 14 * 7000 := by rw [ha14, ByteArray.size_append]; omega
          have r14 : ∀ W : World, (Op.stringOp .add a13 ⟨#[32]⟩).run Tryd.prog W = .ok (.string a14) W := by rw [ha14]; exact add_run _ _ (by omega) (by omega)
          rw [← ha14] at EF
          clear ha14
          obtain ⟨a15, ha15⟩ : ∃ z, z = a14 ++ (pairsT s.ca) := ⟨_, rfl⟩
          have z15 : a15.size ≤ 15 * 7000 := by rw [ha15, ByteArray.size_append]; omega
          have r15 : ∀ W : World, (Op.stringOp .add a14 (pairsT s.ca)).run Tryd.prog W = .ok (.string a15) W := by rw [ha15]; exact add_run _ _ (by omega) (by omega)
          rw [← ha15] at EF
          clear ha15
          have HEF : Hid (a15 = sailT s) := EF
          clear EF rg
          have HN0 : Hid (∀ W : World, Calls Tryd.prog 66 #[.int .i64 s.id] W fun e w' => e = .returned (.string (numT s.id)) ∧ Below W.heap.size W w') := fun W => l1Num_any (by have := HRG.out.1; omega) (by have := HRG.out.1; omega) W
          have HN1 : Hid (∀ W : World, Calls Tryd.prog 66 #[.int .i64 s.dep] W fun e w' => e = .returned (.string (numT s.dep)) ∧ Below W.heap.size W w') := fun W => l1Num_any (by have := HRG.out.2.1; omega) (by have := HRG.out.2.1; omega) W
          have HN2 : Hid (∀ W : World, Calls Tryd.prog 66 #[.int .i64 s.arr] W fun e w' => e = .returned (.string (numT s.arr)) ∧ Below W.heap.size W w') := fun W => l1Num_any (by have := HRG.out.2.2.1; omega) (by have := HRG.out.2.2.1; omega) W
          have HN3 : Hid (∀ W : World, Calls Tryd.prog 66 #[.int .i64 s.most] W fun e w' => e = .returned (.string (numT s.most)) ∧ Below W.heap.size W w') := fun W => l1Num_any (by have := HRG.out.2.2.2.1; omega) (by have := HRG.out.2.2.2.1; omega) W
          have HPP : Hid (∀ h : Grown wr, Calls Tryd.prog 89 #[.slice va na vc] h.val fun e w' => e = .returned (.string (pairsT s.la)) ∧ Below h.val.heap.size h.val w') := fun h => by rw [← HNA.out.1]; exact l11Pairs_any va vc s.la _ (small_la HG.out) (HPA'.out.below h.bel)
          have HPQ : Hid (∀ h : Grown wr, Calls Tryd.prog 89 #[.slice vb nb vd] h.val fun e w' => e = .returned (.string (pairsT s.ca)) ∧ Below h.val.heap.size h.val w') := fun h => by rw [← HNA.out.2]; exact l11Pairs_any vb vd s.ca _ (small_ca HG.out) (HPB.out.below h.bel)
          go_upto_region 12 with fail
          refine wp_region_grow (by kernel_rfl) (by kernel_rfl) ?_
          repeat (first | go_big_quiet_skip | (go_big_quiet_want; go_big_quiet_op; first | go_big_quiet_on | (apply Exists.intro; refine ⟨fun g => ?_, ?_⟩; (focus (first | (go_at_call 66; with_reducible refine grown_call (v := .string (numT s.id)) (HN0.out _)) | (go_at_call 66; with_reducible refine grown_call (v := .string (numT s.dep)) (HN1.out _)) | (go_at_call 66; with_reducible refine grown_call (v := .string (numT s.arr)) (HN2.out _)) | (go_at_call 66; with_reducible refine grown_call (v := .string (numT s.most)) (HN3.out _)) | (go_at_call 89; with_reducible refine grown_call (v := .string (pairsT s.la)) (HPP.out _)) | (go_at_call 89; with_reducible refine grown_call (v := .string (pairsT s.ca)) (HPQ.out _)))); go_big_quiet_on)))
          refine wpQuiet_nil ?_
          rintro _ ⟨h, rfl⟩
          go_wp2
          go_ret
          exact ⟨congrArg (fun z => Ending.returned (Value.string z)) HEF.out, after HBF.out h.bel⟩

set_option maxHeartbeats 1600000 in
set_option maxRecDepth 100000 in
theorem specSText_any (s : Sail) (lo co : Option Addr) (c1 c2 : Nat) (w : World) (hfr : s.fr.size ≤ 1000000000000000) (hto : s.dst.size ≤ 1000000000000000) (hn : s.la.n ≤ 1048576) (hm : s.ca.n ≤ 1048576) (hx : PairsAt w lo s.la) (hy : PairsAt w co s.ca) :
    Calls Tryd.prog 17 #[.agg #[.int .i64 s.id, .string s.fr, .string s.dst, .int .i64 s.dep, .int .i64 s.arr, .slice lo s.la.n c1, .slice co s.ca.n c2, .int .i64 s.most]] w fun e w' => e = .returned (.tuple #[.string (stext s), .bool (goodS s)]) ∧ Below w.heap.size w w' := by
  have HXY : Hid (PairsAt w lo s.la ∧ PairsAt w co s.ca) := ⟨hx, hy⟩
  have hb0 : Below w.heap.size w (w.alloc (.cells #[.int .i64 s.id, .string s.fr, .string s.dst, .int .i64 s.dep, .int .i64 s.arr, .slice lo s.la.n c1, .slice co s.ca.n c2, .int .i64 s.most] 49)) := push (Below.refl _ _) _
  have b0 := heap_alloc_new w (.cells #[.int .i64 s.id, .string s.fr, .string s.dst, .int .i64 s.dep, .int .i64 s.arr, .slice lo s.la.n c1, .slice co s.ca.n c2, .int .i64 s.most] 49)
  clear hx hy
  go_enter Tryd.func17, Tryd.ntmps17
  go_upto_region 1 with fail
  generalize w.alloc (.cells #[.int .i64 s.id, .string s.fr, .string s.dst, .int .i64 s.dep, .int .i64 s.arr, .slice lo s.la.n c1, .slice co s.ca.n c2, .int .i64 s.most] 49) = W at hb0 b0 ⊢
  have y0 := blk_cell b0 0 _ rfl
  have y1 := blk_cell b0 1 _ rfl
  have y2 := blk_cell b0 2 _ rfl
  have y3 := blk_cell b0 3 _ rfl
  have y4 := blk_cell b0 4 _ rfl
  have y5 := blk_cell b0 5 _ rfl
  have y6 := blk_cell b0 6 _ rfl
  have y7 := blk_cell b0 7 _ rfl
  go_wp2_with fail
  refine (specSailing_any _ _ _ _ _ _ _ _ _ _ _ _ s.la s.ca _ rfl rfl hfr hto hn hm (HXY.out.1.below hb0) (HXY.out.2.below hb0)).mono ?_
  rintro e w2 ⟨⟨q, rfl, hq⟩, hb2⟩
  have HQ : Hid (q = true ↔ GoodSail s) := hq
  have b2 := blk_below b0 hb2
  have hB2 := after hb0 hb2
  clear y0 y1 y2 y3 y4 y5 y6 y7 b0 hb0 hb2 hq
  cases q with
  | false =>
    have hno : ¬ GoodSail s := fun h => by have := HQ.out.2 h; cases this
    have HR : Hid (stext s = ⟨#[]⟩ ∧ goodS s = false) := stext_not hno
    clear hno
    go_wp2
    exact bodyPost_ret (v := .tuple #[.string ⟨#[]⟩, .bool false]) (by simp [results, Tryd.results17, go_sem]) rfl ⟨by rw [HR.out.1, HR.out.2], hB2⟩
  | true =>
    have HG : Hid (GoodSail s) := by first | exact HQ.out.1 rfl | exact HQ.out.1 trivial
    have HR : Hid (stext s = sailT s ∧ goodS s = true) := stext_yes HG.out
    have y0 := blk_cell b2 0 _ rfl
    have y1 := blk_cell b2 1 _ rfl
    have y2 := blk_cell b2 2 _ rfl
    have y3 := blk_cell b2 3 _ rfl
    have y4 := blk_cell b2 4 _ rfl
    have y5 := blk_cell b2 5 _ rfl
    have y6 := blk_cell b2 6 _ rfl
    have y7 := blk_cell b2 7 _ rfl
    go_wp2_with fail
    refine (l11Sail_any s lo co c1 c2 _ HG.out (HXY.out.1.below hB2) (HXY.out.2.below hB2)).mono ?_
    rintro e w4 ⟨rfl, hb4⟩
    go_wp2
    exact bodyPost_ret (v := .tuple #[.string (sailT s), .bool true]) (by simp [results, Tryd.results17, go_sem]) rfl ⟨by rw [HR.out.1, HR.out.2], after hB2 hb4⟩

end Go.Proofs.YtfbooamjddnagaaDoor

namespace Go.Proofs.YtfbooamjddnagaaDoor
open Go.RowKit

theorem prs_at {l : List ByteArray} {k : Nat} (h : k < l.length) : (prs l).A k = numOf (cutA 47 (l[k]'h)) ∧ (prs l).B k = numOf (cutB 47 (l[k]'h)) := by
  have e : wd l k = l[k]'h := by
    unfold wd
    rw [List.getD_eq_getElem?_getD, List.getElem?_eq_getElem h]
    rfl
  unfold prs
  dsimp only
  rw [e]
  exact ⟨rfl, rfl⟩

set_option maxHeartbeats 3200000 in
set_option maxRecDepth 100000 in
theorem l11ReadPairs_any (s : ByteArray) (w : World) (hs : s.size ≤ 1048576) :
    Calls Tryd.prog 58 #[.string s] w fun e w' => ∃ v l g, e = .returned v ∧ Hid (PSt w w' v (prs l) l.length g) ∧ Hid (PRd s l) ∧ Below w.heap.size w w' := by
  obtain ⟨j0, ji, jz0, jz1, jz2⟩ := info_parts Tryd.infoIntS'
  by_cases h45 : s = ⟨#[45]⟩
  · have e45 : (s.toList == (⟨#[45]⟩ : ByteArray).toList) = true := bytes_eq.2 h45
    have HR : Hid (PRd s []) := ⟨by simp, .inl ⟨h45, rfl⟩⟩
    have e1 : s.toList = [45] := by rw [h45]; simp [ByteArray.toList_eq]
    have H0 : Hid (PSt w w (.slice none 0 0) (prs []) 0 (fun _ => 0)) := ⟨World.ownsRow_nil _ _ _ _, fun i hi => by omega⟩
    clear h45
    go_enter Tryd.func58, Tryd.ntmps58
    go_wp2
    go_ret
    exact ⟨_, [], _, rfl, H0, HR, Below.refl _ _⟩
  · have e45 : (s.toList == [45]) = false := by
      rw [beq_eq_false_iff_ne]
      intro e
      exact h45 (toList_inj (by rw [e]; simp [ByteArray.toList_eq]))
    have e1 : ¬ s.toList = [45] := by rwa [beq_eq_false_iff_ne] at e45
    have HNE : Hid (s ≠ ⟨#[45]⟩) := h45
    clear h45
    go_enter Tryd.func58, Tryd.ntmps58
    go_wp2_with fail
    refine (l11Split_any s 44 _ hs).mono ?_
    rintro e w2 ⟨v, l, rfl, ho, hp, hb2⟩
    obtain ⟨pa, pc, rfl, hpc, hpm, hpn⟩ := own_form ho
    have HO : Hid (OwnT w2 w.heap.size (.slice pa l.length pc) l) := ho
    have HPT : Hid (Parts 44 s l ∧ l.length ≤ s.size + 1) := hp.out
    have hll : l.length ≤ 1048577 := by have := hp.out.2; omega
    have HSM : Hid (∀ q, q ∈ l → q.size ≤ 1000000000000) := fun q hq => by have := parts_le hp.out.1 q hq; omega
    clear ho hp
    have H0 : Hid (PSt w w2 (.slice none 0 0) (prs l) 0 (fun _ => 0)) := ⟨World.ownsRow_nil _ _ _ _, fun i hi => by omega⟩
    go_wp2
    go_loopw [3, 5, 6, 7, 8, 14] (fun v _ _ _ _ i wr => ∃ (k : Nat) (g : Nat → Nat), k ≤ l.length ∧ i = .int .i64 k ∧ Hid (PSt w wr v (prs l) k g) ∧ Hid (OwnT wr w.heap.size (.slice pa l.length pc) l) ∧ Below w.heap.size w wr)
      (fun _ _ _ _ _ i _ => l.length - (intOf i).toNat)
    case atStart => exact ⟨0, _, Nat.zero_le _, rfl, H0.out, HO.out, hb2⟩
    case round =>
      clear HO H0
      obtain ⟨k, g, hk, rfl, HN, HO, hbel⟩ := hrel
      by_cases hlt : k < l.length
      · obtain ⟨gb, hpa, _, hg⟩ := own_addr HO.out (by omega)
        subst hpa
        have hx : l[k]? = some (l[k]'hlt) := List.getElem?_eq_getElem hlt
        have hc : wr.cell? ⟨gb, k, none⟩ = some (.string (l[k]'hlt)) := by rw [World.ownsRow.cellAt HO.out k (by omega), List.getElem?_map, hx]; rfl
        have HAB : Hid ((prs l).A k = numOf (cutA 47 (l[k]'hlt)) ∧ (prs l).B k = numOf (cutB 47 (l[k]'hlt))) := prs_at hlt
        have HXS : Hid ((l[k]'hlt).size ≤ 1000000000000) := HSM.out _ (List.getElem_mem hlt)
        generalize l[k]'hlt = x at hc HAB HXS
        obtain ⟨va, vc, rfl, _⟩ := own_form HN.out.own
        have ci := l11Cut_any x 47 wr HXS.out
        have HA : Hid (∀ W', Calls Tryd.prog 40 #[.string (cutA 47 x)] W' fun e w' => e = .returned (.int .i64 ((prs l).A k)) ∧ w' = W') := fun W' => by rw [HAB.out.1]; exact l11Number_any _ _
        have HB : Hid (∀ W', Calls Tryd.prog 40 #[.string (cutB 47 x)] W' fun e w' => e = .returned (.int .i64 ((prs l).B k)) ∧ w' = W') := fun W' => by rw [HAB.out.2]; exact l11Number_any _ _
        generalize cutA 47 x = xa at ci HA
        generalize cutB 47 x = xb at ci HB
        generalize cutF 47 x = xf at ci
        clear hx HXS HAB
        go_wp2_with fail
        refine ci.mono ?_
        clear ci
        rintro e w3 ⟨rfl, hb3⟩
        have HN3 : Hid (PSt w w3 (.slice va k vc) (prs l) k g) := HN.out.below hb3
        have HO3 : Hid (OwnT w3 w.heap.size (.slice (some ⟨gb, 0, none⟩) l.length pc) l) := own_below hb3 HO.out
        have hb3' := after hbel hb3
        clear HN HO hbel hb3 hc
        go_wp2_with fail
        refine (HA.out _).mono ?_
        rintro e w4 ⟨rfl, hw4⟩
        have hw4 := hw4.symm
        subst hw4
        go_wp2_with fail
        refine (HB.out _).mono ?_
        rintro e w4 ⟨rfl, hw4⟩
        have hw4 := hw4.symm
        subst hw4
        clear HA HB
        have HP5 : Hid (PSt w ((w3.alloc (.cells #[.int .i64 ((prs l).A k), .int .i64 ((prs l).B k)] 3)).alloc (.cells #[.slice (some ⟨w3.heap.size, 0, none⟩) 2 2] 22)) (.slice va k vc) (prs l) k g ∧ OwnT ((w3.alloc (.cells #[.int .i64 ((prs l).A k), .int .i64 ((prs l).B k)] 3)).alloc (.cells #[.slice (some ⟨w3.heap.size, 0, none⟩) 2 2] 22)) w.heap.size (.slice (some ⟨gb, 0, none⟩) l.length pc) l ∧ Below w.heap.size w ((w3.alloc (.cells #[.int .i64 ((prs l).A k), .int .i64 ((prs l).B k)] 3)).alloc (.cells #[.slice (some ⟨w3.heap.size, 0, none⟩) 2 2] 22))) := ⟨HN3.out.below (push (push (Below.refl _ _) _) _), own_below (push (push (Below.refl _ _) _) _) HO3.out, push (push hb3' _) _⟩
        have HM : Hid (((w3.alloc (.cells #[.int .i64 ((prs l).A k), .int .i64 ((prs l).B k)] 3)).alloc (.cells #[.slice (some ⟨w3.heap.size, 0, none⟩) 2 2] 22)).heap[w3.heap.size]? = some (.cells #[.int .i64 ((prs l).A k), .int .i64 ((prs l).B k)] 3 (0, 0))) := blk_alloc (heap_alloc_new w3 _) _
        have hsz := HP5.out.2.2.size
        have hw1 : (w3.alloc (.cells #[.int .i64 ((prs l).A k), .int .i64 ((prs l).B k)] 3)).heap.size = w3.heap.size + 1 := by simp
        have HNW : Hid (∀ j u, [Value.slice (some ⟨w3.heap.size, 0, none⟩) 2 2][j]? = some u → ((w3.alloc (.cells #[.int .i64 ((prs l).A k), .int .i64 ((prs l).B k)] 3)).alloc (.cells #[.slice (some ⟨w3.heap.size, 0, none⟩) 2 2] 22)).cell? ((⟨w3.heap.size + 1, 0, none⟩ : Addr).add j) = some u) := by
          have := World.news_of_block (heap_alloc_new (w3.alloc (.cells #[.int .i64 ((prs l).A k), .int .i64 ((prs l).B k)] 3)) (.cells #[.slice (some ⟨w3.heap.size, 0, none⟩) 2 2] 22))
          rw [hw1] at this
          exact this
        clear HN3 HO3 hb3'
        go_wp2_with (first | (at_builtin; refine wpList_append_any _ (by rfl) (.tmp 24) (.tmp 30) 86 (by rfl) w.heap.size 22 j0 (.slice none 0 0) 1 24 Tryd.underlying86 ji jz0 jz1 jz2 rfl (by decide) _ k ((List.range k).map (fun i => Value.slice (some ⟨g i, 0, none⟩) 2 2)) (by rfl) HP5.out.1.own (some ⟨w3.heap.size + 1, 0, none⟩) 1 1 [.slice (some ⟨w3.heap.size, 0, none⟩) 2 2] (by rfl) (fun h => by cases h) (by rfl) (fun ad h => by cases h; exact HNW.out) (by intro u hu; simp only [List.mem_cons, List.not_mem_nil, or_false] at hu; subst hu; rfl) (by unfold maxLen; omega) (by omega) hsz ?_; intro v9 w9 ho9 hg9))
        have HN9 : Hid (PSt w w9 v9 (prs l) (k + 1) (fun i => if i = k then w3.heap.size else g i)) := HP5.out.1.app HM.out hg9 ho9
        have HO9 : Hid (OwnT w9 w.heap.size (.slice (some ⟨gb, 0, none⟩) l.length pc) l) := (kept_row hg9).own HP5.out.2.1 (fun g1 h1 e1 => own_apart HP5.out.2.1 HP5.out.1.own (by decide) g1 h1 e1)
        have hb9 := HP5.out.2.2.grown hg9 hsz (fun j hj => (World.ownsRow.lt HP5.out.1.own j hj).1)
        clear HP5 HM HNW hsz hw1 ho9 hg9
        go_roundw
        case rel => exact ⟨k + 1, _, by omega, by go_num, HN9.out, HO9.out, hb9⟩
        case measure => simp [intOf]; omega
      · obtain rfl : k = l.length := by omega
        have HF : Hid (PRd s l) := ⟨HPT.out.2, .inr ⟨HNE.out, HPT.out.1⟩⟩
        go_wp2
        go_ret
        exact ⟨_, l, g, rfl, HN, HF, hbel⟩

end Go.Proofs.YtfbooamjddnagaaDoor

/-
  OWN TEXT: SpecTx1, SpecSt1.
-/
import Derived.Deep.CutBlock
import Derived.Test.YtfbooamjddnagaaDoorB09
import Derived.Test.YtfbooamjddnagaaDoorB06
import Derived.Test.YtfbooamjddnagaaDoorB15
namespace Go.Proofs.YtfbooamjddnagaaDoor
open Go.RowKit

theorem legsT_succ (n : Nat) (f : Nat → Int) (h : 0 < n) : legsT (n + 1) f = legsT n f ++ coT ++ numT (f n) := by
  unfold legsT
  rw [List.range_succ, List.map_append, List.map_cons, List.map_nil, joinT_snoc _ _ (by
    intro e
    have := congrArg List.length e
    simp at this
    omega), ByteArray.append_assoc]
theorem legsT_one (f : Nat → Int) : legsT 1 f = numT (f 0) := joinT_one _ _
theorem legsT_size (n : Nat) (f : Nat → Int) (hn : n ≤ 3) (h : ∀ i, i < n → In (f i) 0 99999) : (legsT n f).size ≤ 3003 := by
  have := joinT_le coT (by show 1 ≤ 1; omega) ((List.range n).map (fun i => numT (f i))) (fun p hp => by
    obtain ⟨i, hi, rfl⟩ := List.mem_map.1 hp
    have h3 := h i (by simpa using hi)
    unfold In at h3
    have := numT_size (n := f i) (by omega) (by omega)
    omega)
  rw [List.length_map, List.length_range] at this
  unfold legsT
  omega

set_option maxHeartbeats 800000 in
set_option maxRecDepth 100000 in
theorem l11Legs_any (ao : Option Addr) (n cap : Nat) (f : Nat → Int) (w : World) (hn : n ≤ 3) (hz : IntsAt w ao n f) (hi : ∀ i, i < n → In (f i) 0 99999) :
    Calls Tryd.prog 67 #[.slice ao n cap] w fun e w' => e = .returned (.string (legsT n f)) ∧ Below w.heap.size w w' := by
  have HI : Hid (∀ i, i < n → In (f i) 0 99999) := hi
  clear hi
  go_enter Tryd.func67, Tryd.ntmps67
  go_wp2
  go_loopw [3, 4, 5, 8] (fun v _ _ i wr => ∃ k : Nat, k ≤ n ∧ i = .int .i64 k ∧ v = .string (legsT k f) ∧ Below w.heap.size w wr)
    (fun _ _ _ i _ => n - (intOf i).toNat)
  case atStart => exact ⟨0, Nat.zero_le _, rfl, rfl, Below.refl _ _⟩
  case round =>
    obtain ⟨k, hk, rfl, rfl, hbel⟩ := hrel
    by_cases hlt : k < n
    · obtain ⟨b, off, rfl, hc⟩ := (hz k (by omega))
      have hc' : wr.cell? ⟨b, off + k, none⟩ = some (.int .i64 (f k)) := (hbel.cell (World.block_lt_of_cell? w _ hc)).trans hc
      have hik := HI.out k hlt
      unfold In at hik
      have sn := numT_size (n := f k) (by omega) (by omega)
      have sl := legsT_size k f (by omega) (fun i h => HI.out i (by omega))
      clear hc
      by_cases h0 : k = 0
      · have dk : decide ((0 : Int) < (k : Int)) = false := decide_eq_false (by omega)
        have dk' : decide (0 < k) = false := decide_eq_false (by omega)
        have dn : ¬ 0 < k := by omega
        have EL : Hid (legsT (k + 1) f = legsT k f ++ numT (f k)) := by
          rw [h0]
          show legsT 1 f = _
          rw [legsT_one]
          show numT (f 0) = (⟨#[]⟩ : ByteArray) ++ numT (f 0)
          exact ByteArray.empty_append.symm
        have r2 := add_run (legsT k f) (numT (f k)) (by omega) (by omega)
        clear h0
        go_wp2_with fail
        refine (l1Num_any (n := f k) (by omega) (by omega) _).mono ?_
        rintro e w2 ⟨rfl, hb2⟩
        go_wp2
        go_roundw
        case rel => exact ⟨k + 1, by omega, by go_num, by rw [EL.out], after hbel hb2⟩
        case measure => simp [intOf]; omega
      · have dk : decide ((0 : Int) < (k : Int)) = true := decide_eq_true (by omega)
        have EL : Hid (legsT (k + 1) f = legsT k f ++ ⟨#[44]⟩ ++ numT (f k)) := legsT_succ k f (by omega)
        have r1 := add_run (legsT k f) ⟨#[44]⟩ (by omega) (by show 1 ≤ _; omega)
        have r2 := add_run (legsT k f ++ ⟨#[44]⟩) (numT (f k)) (by rw [ByteArray.size_append]; show _ + 1 ≤ _; omega) (by omega)
        go_wp2_with fail
        refine (l1Num_any (n := f k) (by omega) (by omega) _).mono ?_
        rintro e w2 ⟨rfl, hb2⟩
        go_wp2
        go_roundw
        case rel => exact ⟨k + 1, by omega, by go_num, by rw [EL.out], after hbel hb2⟩
        case measure => simp [intOf]; omega
    · obtain rfl : n = k := by omega
      go_wp2
      go_ret
      exact ⟨rfl, hbel⟩

set_option maxHeartbeats 1600000 in
set_option maxRecDepth 100000 in
theorem l11Party_any (p : Party) (w : World) (hp : PartyOk p) :
    Calls Tryd.prog 68 #[.agg #[.int .i64 p.pe, .int .i64 p.len, .int .i64 p.hei, .int .i64 p.cl, .bool p.all, .int .i64 p.be]] w fun e w' => e = .returned (.string (partyT p)) ∧ Below w.heap.size w w' := by
  obtain ⟨pe, len, hei, cl, all, be⟩ := p
  have HK : Hid (PartyOk ⟨pe, len, hei, cl, all, be⟩) := hp
  unfold PartyOk CarOk CabOk In at hp
  dsimp only at hp ⊢
  have s1 := numT_size (n := pe) (by omega) (by omega)
  have s2 := numT_size (n := len) (by omega) (by omega)
  have s3 := numT_size (n := hei) (by omega) (by omega)
  have s4 := numT_size (n := cl) (by omega) (by omega)
  have s5 := numT_size (n := be) (by omega) (by omega)
  have HB1 : Hid ((0 ≤ pe ∧ pe ≤ 1000) ∧ (0 ≤ len ∧ len ≤ 2000) ∧ (0 ≤ hei ∧ hei ≤ 500) ∧ (0 ≤ cl ∧ cl ≤ 3) ∧ (0 ≤ be ∧ be ≤ 4)) := by
    show (0 ≤ pe ∧ pe ≤ 1000) ∧ (0 ≤ len ∧ len ≤ 2000) ∧ (0 ≤ hei ∧ hei ≤ 500) ∧ (0 ≤ cl ∧ cl ≤ 3) ∧ (0 ≤ be ∧ be ≤ 4)
    omega
  have HCA : Hid (len = 0 → hei = 0) := by show len = 0 → hei = 0; omega
  clear hp
  have hA := heap_alloc_new w (.cells #[.int .i64 pe, .int .i64 len, .int .i64 hei, .int .i64 cl, .bool all, .int .i64 be] 30)
  have hb0 : Below w.heap.size w (w.alloc (.cells #[.int .i64 pe, .int .i64 len, .int .i64 hei, .int .i64 cl, .bool all, .int .i64 be] 30)) := push (Below.refl _ _) _
  go_enter Tryd.func68, Tryd.ntmps68
  go_upto_region 1 with fail
  generalize w.alloc (.cells #[.int .i64 pe, .int .i64 len, .int .i64 hei, .int .i64 cl, .bool all, .int .i64 be] 30) = wA at hA hb0 ⊢
  have x0 := blk_cell hA 0 _ rfl
  go_wp2_with fail
  refine (l1Num_any (n := pe) (by have := HB1.out; omega) (by have := HB1.out; omega) _).mono ?_
  rintro e w3 ⟨rfl, hb2⟩
  have hA3 := blk_below hA hb2
  have hB3 := after hb0 hb2
  clear hA hb0 hb2 x0
  have y1 := blk_cell hA3 1 _ rfl
  have hcs : (carT ⟨pe, len, hei, cl, all, be⟩).size ≤ 300 := by
    unfold carT
    split
    · exact Nat.zero_le _
    · rw [ByteArray.size_append, ByteArray.size_append, ByteArray.size_append]
      show 1 + ((numT len).size + 1 + (numT hei).size) ≤ 300
      omega
  obtain ⟨q, hq⟩ : ∃ q, q = decide ((0 : Int) < len) := ⟨_, rfl⟩
  have HQ : Hid (q = true ↔ 0 < len) := by show q = true ↔ 0 < len; rw [hq, decide_eq_true_eq]
  have hq' := hq.symm
  clear hq
  go_upto_if 9 with fail
  go_cut [3] (fun v wx => v = .string (numT pe ++ carT ⟨pe, len, hei, cl, all, be⟩) ∧ Hid (Below w3.heap.size w3 wx))
  case first =>
    clear hq' y1
    cases q with
    | false =>
      have h0 : len = 0 := by
        have h1 := HB1.out
        by_cases c : 0 < len
        · have := HQ.out.2 c; cases this
        · omega
      have ec : numT pe ++ carT ⟨pe, len, hei, cl, all, be⟩ = numT pe := by
        unfold carT
        rw [if_pos ⟨h0, HCA.out h0⟩]
        exact ByteArray.append_empty
      have EC : Hid (numT pe = numT pe ++ carT ⟨pe, len, hei, cl, all, be⟩) := ec.symm
      clear h0 ec
      go_wp2
      go_meet
      exact ⟨congrArg Value.string EC.out, Below.refl _ _⟩
    | true =>
      have h0 : 0 < len := HQ.out.1 rfl
      have ec : carT ⟨pe, len, hei, cl, all, be⟩ = ⟨#[43]⟩ ++ numT len ++ ⟨#[47]⟩ ++ numT hei := by
        unfold carT
        rw [if_neg (fun h => by have h : len = 0 := h.1; omega)]
        simp only [ByteArray.append_assoc]
      have EC : Hid (numT pe ++ (⟨#[43]⟩ ++ numT len ++ ⟨#[47]⟩ ++ numT hei) = numT pe ++ carT ⟨pe, len, hei, cl, all, be⟩) := by show _ = _; rw [ec]
      have e1 : ((⟨#[43]⟩ : ByteArray) ++ numT len).size ≤ 101 := by rw [ByteArray.size_append]; show 1 + _ ≤ _; omega
      have e2 : ((⟨#[43]⟩ : ByteArray) ++ numT len ++ ⟨#[47]⟩).size ≤ 102 := by rw [ByteArray.size_append]; show _ + 1 ≤ _; omega
      have e3 : ((⟨#[43]⟩ : ByteArray) ++ numT len ++ ⟨#[47]⟩ ++ numT hei).size ≤ 202 := by rw [ByteArray.size_append]; omega
      have r1 := add_run ⟨#[43]⟩ (numT len) (by show 1 ≤ _; omega) (by omega)
      have r2 := add_run (⟨#[43]⟩ ++ numT len) ⟨#[47]⟩ (by omega) (by show 1 ≤ _; omega)
      have r3 := add_run (⟨#[43]⟩ ++ numT len ++ ⟨#[47]⟩) (numT hei) (by omega) (by omega)
      have r4 := add_run (numT pe) (⟨#[43]⟩ ++ numT len ++ ⟨#[47]⟩ ++ numT hei) (by omega) (by omega)
      have lA := blk_lt hA3
      have y1 : ∀ g : Grown w3, g.val.cell? ⟨w.heap.size, 1, none⟩ = some (.int .i64 len) := fun g => (g.bel.cell lA).trans (blk_cell hA3 1 _ rfl)
      have y2 : ∀ g : Grown w3, g.val.cell? ⟨w.heap.size, 2, none⟩ = some (.int .i64 hei) := fun g => (g.bel.cell lA).trans (blk_cell hA3 2 _ rfl)
      clear h0 ec hcs e1 e2 e3
      have HN1 : Hid (∀ W : World, Calls Tryd.prog 66 #[.int .i64 len] W fun e w' => e = .returned (.string (numT len)) ∧ Below W.heap.size W w') := fun W => l1Num_any (by have := HB1.out; omega) (by have := HB1.out; omega) W
      have HN2 : Hid (∀ W : World, Calls Tryd.prog 66 #[.int .i64 hei] W fun e w' => e = .returned (.string (numT hei)) ∧ Below W.heap.size W w') := fun W => l1Num_any (by have := HB1.out; omega) (by have := HB1.out; omega) W
      go_upto_region 3 with fail
      refine wp_region_grow (by kernel_rfl) (by kernel_rfl) ?_
      repeat (first | go_big_quiet_skip | (go_big_quiet_want; go_big_quiet_op; first | go_big_quiet_on | (apply Exists.intro; refine ⟨fun g => ?_, ?_⟩; (focus (go_at_call 66; first | (with_reducible refine grown_call (v := .string (numT len)) (HN1.out _)) | (with_reducible refine grown_call (v := .string (numT hei)) (HN2.out _)))); go_big_quiet_on)))
      refine wpQuiet_nil ?_
      rintro _ ⟨g, rfl⟩
      go_wp2
      go_meet
      exact ⟨congrArg Value.string EC.out, g.bel⟩
  case rest =>
  obtain ⟨rfl, HW⟩ := hcut
  have hA4 := blk_below hA3 HW.out
  have hB4 := after hB3 HW.out
  clear hA3 hB3 HW hq' y1
  obtain ⟨ct, hct⟩ : ∃ z, z = carT ⟨pe, len, hei, cl, all, be⟩ := ⟨_, rfl⟩
  have HCT : Hid (ct = carT ⟨pe, len, hei, cl, all, be⟩) := hct
  rw [← hct] at hcs ⊢
  clear hct HQ q
  have y3 := blk_cell hA4 3 _ rfl
  by_cases hc : 0 < cl
  case neg =>
    have dc : decide ((0 : Int) < cl) = false := decide_eq_false hc
    have EP : Hid (numT pe ++ ct = partyT ⟨pe, len, hei, cl, all, be⟩) := by
      show numT pe ++ ct = partyT _
      unfold partyT
      rw [if_pos (by have := HB1.out; show cl = 0; omega), HCT.out]
    clear hc
    go_wp2
    go_ret
    exact ⟨congrArg (fun z => Ending.returned (Value.string z)) EP.out, hB4⟩
  case pos =>
    have dc : decide ((0 : Int) < cl) = true := decide_eq_true hc
    have hc' : ¬ cl = 0 := by omega
    have t1 : (numT pe ++ ct).size ≤ 500 := by rw [ByteArray.size_append]; omega
    have t2 : ((⟨#[64]⟩ : ByteArray) ++ numT cl).size ≤ 101 := by rw [ByteArray.size_append]; show 1 + _ ≤ _; omega
    have r1 := add_run ⟨#[64]⟩ (numT cl) (by show 1 ≤ _; omega) (by omega)
    have r2 := add_run (numT pe ++ ct) (⟨#[64]⟩ ++ numT cl) (by omega) (by omega)
    go_wp2_with fail
    refine (l1Num_any (n := cl) (by have := HB1.out; omega) (by have := HB1.out; omega) _).mono ?_
    rintro e w6 ⟨rfl, hb6⟩
    have hA6 := blk_below hA4 hb6
    have hB6 := after hB4 hb6
    clear hA4 hB4 hb6 y3
    have y4 := blk_cell hA6 4 _ rfl
    have y5 := blk_cell hA6 5 _ rfl
    cases all with
    | true =>
      have EP : Hid (numT pe ++ ct ++ (⟨#[64]⟩ ++ numT cl) = partyT ⟨pe, len, hei, cl, true, be⟩) := by
        show numT pe ++ ct ++ (⟨#[64]⟩ ++ numT cl) = partyT _
        unfold partyT cabT berT
        rw [if_neg hc', if_neg hc', if_pos rfl, HCT.out]
        exact ByteArray.append_empty.symm
      clear hc hc'
      go_wp2
      go_ret
      exact ⟨congrArg (fun z => Ending.returned (Value.string z)) EP.out, hB6⟩
    | false =>
      have EP : Hid (numT pe ++ ct ++ (⟨#[64]⟩ ++ numT cl) ++ (⟨#[120]⟩ ++ numT be) = partyT ⟨pe, len, hei, cl, false, be⟩) := by
        show numT pe ++ ct ++ (⟨#[64]⟩ ++ numT cl) ++ (⟨#[120]⟩ ++ numT be) = partyT _
        unfold partyT cabT berT
        rw [if_neg hc', if_neg hc', if_neg (by simp), HCT.out]
      clear hc hc'
      have r3 := add_run ⟨#[120]⟩ (numT be) (by show 1 ≤ _; omega) (by omega)
      have r4 := add_run (numT pe ++ ct ++ (⟨#[64]⟩ ++ numT cl)) (⟨#[120]⟩ ++ numT be) (by rw [ByteArray.size_append]; omega) (by rw [ByteArray.size_append]; show 1 + _ ≤ _; omega)
      go_wp2_with fail
      refine (l1Num_any (n := be) (by have := HB1.out; omega) (by have := HB1.out; omega) _).mono ?_
      rintro e w7 ⟨rfl, hb7⟩
      go_wp2
      go_ret
      exact ⟨congrArg (fun z => Ending.returned (Value.string z)) EP.out, after hB6 hb7⟩

end Go.Proofs.YtfbooamjddnagaaDoor

namespace Go.Proofs.YtfbooamjddnagaaDoor
open Go.RowKit

/-- A list of lists of two numbers. -/
def PRows (w : World) (ao : Option Addr) (p : Pairs) : Prop := ∀ k, k < p.n → ∃ b off g, ao = some ⟨b, off, none⟩ ∧ w.cell? ⟨b, off + k, none⟩ = some (.slice (some ⟨g, 0, none⟩) 2 2) ∧ w.heap[g]? = some (.cells #[.int .i64 (p.A k), .int .i64 (p.B k)] 3 (0, 0))
theorem PRows.below {w w' : World} {ao : Option Addr} {p : Pairs} (h : PRows w ao p) (hb : Below w.heap.size w w') : PRows w' ao p := fun k hk => by
  obtain ⟨b, off, g, e, h1, h2⟩ := h k hk
  exact ⟨b, off, g, e, (hb.cell (World.block_lt_of_cell? w _ h1)).trans h1, blk_below h2 hb⟩
/-- The first k of them joined. -/
def pT (p : Pairs) (k : Nat) : ByteArray := joinT coT ((List.range k).map (fun i => pairT (p.A i) (p.B i)))
theorem pT_succ (p : Pairs) (k : Nat) (h : 0 < k) : pT p (k + 1) = pT p k ++ coT ++ pairT (p.A k) (p.B k) := by
  unfold pT
  rw [List.range_succ, List.map_append, List.map_cons, List.map_nil, joinT_snoc _ _ (by
    intro e
    have := congrArg List.length e
    simp at this
    omega), ByteArray.append_assoc]
theorem pT_one (p : Pairs) : pT p 1 = pairT (p.A 0) (p.B 0) := joinT_one _ _
theorem pT_size {p : Pairs} (h : SmallP p) (k : Nat) (hk : k ≤ p.n) : (pT p k).size ≤ 6006 := by
  have := joinT_le coT (by show 1 ≤ 1; omega) ((List.range k).map (fun i => pairT (p.A i) (p.B i))) (fun q hq => by
    obtain ⟨i, hi, rfl⟩ := List.mem_map.1 hq
    have hi' : i < k := by simpa using hi
    have h3 := h.2 i (by omega)
    have := pairT_size h3.1 h3.2
    omega)
  rw [List.length_map, List.length_range] at this
  have := h.1
  unfold pT
  omega

set_option maxHeartbeats 1600000 in
set_option maxRecDepth 100000 in
theorem l11Pairs_any (ao : Option Addr) (cap : Nat) (p : Pairs) (w : World) (hp : SmallP p) (hz : PRows w ao p) :
    Calls Tryd.prog 89 #[.slice ao p.n cap] w fun e w' => e = .returned (.string (pairsT p)) ∧ Below w.heap.size w w' := by
  have HN : Hid (SmallP p) := hp
  have hn6 := hp.1
  have HZ : Hid (PRows w ao p) := hz
  obtain ⟨n, hn⟩ : ∃ n, n = p.n := ⟨_, rfl⟩
  have HE : Hid (p.n = n) := hn.symm
  rw [← hn] at hn6 ⊢
  clear hp hz hn
  by_cases h0 : n = 0
  · have d0 : ((n : Int) == 0) = true := by rw [beq_iff_eq]; omega
    have ER : Hid ((⟨#[45]⟩ : ByteArray) = pairsT p) := by show _ = pairsT p; unfold pairsT; rw [if_pos (by rw [HE.out]; exact h0)]
    clear h0
    go_enter Tryd.func89, Tryd.ntmps89
    go_wp2
    go_ret
    exact ⟨congrArg (fun z => Ending.returned (Value.string z)) ER.out, Below.refl _ _⟩
  have d0 : ((n : Int) == 0) = false := by rw [beq_eq_false_iff_ne]; omega
  go_enter Tryd.func89, Tryd.ntmps89
  go_wp2
  go_loopw [3, 4, 5, 11] (fun v _ _ i wr => ∃ k : Nat, k ≤ n ∧ i = .int .i64 k ∧ v = .string (pT p k) ∧ Below w.heap.size w wr)
    (fun _ _ _ i _ => n - (intOf i).toNat)
  case atStart => exact ⟨0, Nat.zero_le _, rfl, rfl, Below.refl _ _⟩
  case round =>
    obtain ⟨k, hk, rfl, rfl, hbel⟩ := hrel
    by_cases hlt : k < n
    · obtain ⟨b, off, g, rfl, hc, hg⟩ := HZ.out.below hbel k (by rw [HE.out]; exact hlt)
      have hik := HN.out.2 k (by rw [HE.out]; exact hlt)
      have HIK : Hid (In (p.A k) 0 1000000 ∧ In (p.B k) 0 1000000) := hik
      have sp : (pairT (p.A k) (p.B k)).size ≤ 201 := pairT_size hik.1 hik.2
      have sl := pT_size HN.out k (by rw [HE.out]; exact hk)
      unfold In at hik
      have s1 := numT_size (n := p.A k) (by omega) (by omega)
      have s2 := numT_size (n := p.B k) (by omega) (by omega)
      have r1 := add_run (numT (p.A k)) ⟨#[47]⟩ (by omega) (by show 1 ≤ _; omega)
      have r2 : ∀ W : World, (Op.stringOp .add (numT (p.A k) ++ ⟨#[47]⟩) (numT (p.B k))).run Tryd.prog W = .ok (.string (pairT (p.A k) (p.B k))) W := add_run (numT (p.A k) ++ ⟨#[47]⟩) (numT (p.B k)) (by rw [ByteArray.size_append]; show _ + 1 ≤ _; omega) (by omega)
      have HN1 : Hid (∀ W : World, Calls Tryd.prog 66 #[.int .i64 (p.A k)] W fun e w' => e = .returned (.string (numT (p.A k))) ∧ Below W.heap.size W w') := fun W => l1Num_any (by have := HIK.out.1.1; omega) (by have := HIK.out.1.2; omega) W
      have HN2 : Hid (∀ W : World, Calls Tryd.prog 66 #[.int .i64 (p.B k)] W fun e w' => e = .returned (.string (numT (p.B k))) ∧ Below W.heap.size W w') := fun W => l1Num_any (by have := HIK.out.2.1; omega) (by have := HIK.out.2.2; omega) W
      have lg := blk_lt hg
      have y0 : ∀ h : Grown wr, h.val.cell? ⟨g, 0, none⟩ = some (.int .i64 (p.A k)) := fun h => (h.bel.cell lg).trans (blk_cell hg 0 _ rfl)
      have y1 : ∀ h : Grown wr, h.val.cell? ⟨g, 1, none⟩ = some (.int .i64 (p.B k)) := fun h => (h.bel.cell lg).trans (blk_cell hg 1 _ rfl)
      clear hg hik
      obtain ⟨T, E0, hT⟩ : ∃ T, T ++ pairT (p.A k) (p.B k) = pT p (k + 1) ∧ ((¬ 0 < k ∧ T = pT p k) ∨ (0 < k ∧ T = pT p k ++ ⟨#[44]⟩)) := by
        by_cases c : 0 < k
        · exact ⟨pT p k ++ ⟨#[44]⟩, (show pT p k ++ ⟨#[44]⟩ ++ pairT (p.A k) (p.B k) = pT p (k + 1) from (pT_succ p k c).symm), .inr ⟨c, rfl⟩⟩
        · refine ⟨pT p k, ?_, .inl ⟨c, rfl⟩⟩
          have e : k = 0 := by omega
          subst e
          show pT p 0 ++ _ = pT p 1
          rw [pT_one]
          exact ByteArray.empty_append
      have E : Hid (T ++ pairT (p.A k) (p.B k) = pT p (k + 1)) := E0
      clear E0
      have sT : T.size ≤ 6007 := by
        rcases hT with ⟨_, rfl⟩ | ⟨_, rfl⟩
        · omega
        · rw [ByteArray.size_append]; show _ + 1 ≤ _; omega
      have r3 := add_run T (pairT (p.A k) (p.B k)) (by omega) (by omega)
      go_upto_if 17 with fail
      go_cut [3] (fun v wx => v = .string T ∧ wx = wr)
      case first =>
        rcases hT with ⟨c, hT⟩ | ⟨c, hT⟩
        · have dk : decide ((0 : Int) < (k : Int)) = false := decide_eq_false (by omega)
          have dk' : decide (0 < k) = false := decide_eq_false (by omega)
          have HTT : Hid (pT p k = T) := hT.symm
          clear hT
          go_wp2
          go_meet
          exact ⟨congrArg Value.string HTT.out, rfl⟩
        · have dk : decide ((0 : Int) < (k : Int)) = true := decide_eq_true (by omega)
          have dk' : decide (0 < k) = true := decide_eq_true (by omega)
          have r4 := add_run (pT p k) ⟨#[44]⟩ (by omega) (by show 1 ≤ _; omega)
          have HTT : Hid (pT p k ++ ⟨#[44]⟩ = T) := hT.symm
          clear hT
          go_wp2
          go_meet
          exact ⟨congrArg Value.string HTT.out, rfl⟩
      case rest =>
      obtain ⟨rfl, hwx⟩ := hcut
      have hwx := hwx.symm
      subst hwx
      clear hT hc
      go_upto_region 9 with fail
      refine wp_region_grow (by kernel_rfl) (by kernel_rfl) ?_
      repeat (first | go_big_quiet_skip | (go_big_quiet_want; go_big_quiet_op; first | go_big_quiet_on | (apply Exists.intro; refine ⟨fun g => ?_, ?_⟩; (focus (go_at_call 66; first | (with_reducible refine grown_call (v := .string (numT (p.A k))) (HN1.out _)) | (with_reducible refine grown_call (v := .string (numT (p.B k))) (HN2.out _)))); go_big_quiet_on)))
      refine wpQuiet_nil ?_
      rintro _ ⟨h, rfl⟩
      clear y0 y1
      go_wp2
      go_roundw
      case rel => exact ⟨k + 1, by omega, by go_num, by rw [← E.out], after hbel h.bel⟩
      case measure => simp [intOf]; omega
    · obtain rfl : n = k := by omega
      have ER : Hid (pT p n = pairsT p) := by show pT p n = pairsT p; unfold pairsT pT; rw [HE.out, if_neg h0]
      go_wp2
      go_ret
      exact ⟨congrArg (fun z => Ending.returned (Value.string z)) ER.out, hbel⟩

end Go.Proofs.YtfbooamjddnagaaDoor

/-
  OWN TEXT: ListS, ImplS1, ImplLane, ImplCab.
-/
import Derived.Test.YtfbooamjddnagaaDoorB16
import Derived.Test.YtfbooamjddnagaaDoorB05
import Derived.Test.YtfbooamjddnagaaDoorB15
import Derived.Test.YtfbooamjddnagaaDoorB17
import Derived.Test.YtfbooamjddnagaaDoorB18
namespace Go.Proofs.YtfbooamjddnagaaDoor
open Go.RowKit

def pairT (a b : Int) : ByteArray := numT a ++ ⟨#[47]⟩ ++ numT b
/-- Pairs with a comma between, a stroke where there are none. -/
def pairsT (p : Pairs) : ByteArray := if p.n = 0 then ⟨#[45]⟩ else joinT coT ((List.range p.n).map (fun i => pairT (p.A i) (p.B i)))
theorem pairT_size {a b : Int} (ha : In a 0 1000000) (hb : In b 0 1000000) : (pairT a b).size ≤ 201 := by
  unfold In at ha hb
  have s1 := numT_size (n := a) (by omega) (by omega)
  have s2 := numT_size (n := b) (by omega) (by omega)
  unfold pairT
  rw [ByteArray.size_append, ByteArray.size_append]
  show _ + 1 + _ ≤ 201
  omega
def SmallP (p : Pairs) : Prop := p.n ≤ 6 ∧ ∀ i, i < p.n → In (p.A i) 0 1000000 ∧ In (p.B i) 0 1000000
theorem pairs_joined {p : Pairs} (h : SmallP p) : (joinT coT ((List.range p.n).map (fun i => pairT (p.A i) (p.B i)))).size ≤ 6006 := by
  have := joinT_le coT (by show 1 ≤ 1; omega) ((List.range p.n).map (fun i => pairT (p.A i) (p.B i))) (fun q hq => by
    obtain ⟨i, hi, rfl⟩ := List.mem_map.1 hq
    have h3 := h.2 i (by simpa using hi)
    have := pairT_size h3.1 h3.2
    omega)
  rw [List.length_map, List.length_range] at this
  have := h.1
  omega
theorem pairsT_size {p : Pairs} (h : SmallP p) : (pairsT p).size ≤ 6006 := by
  unfold pairsT
  split
  · show 1 ≤ 6006; omega
  · exact pairs_joined h

theorem laneText_any (a b : Int) (w : World) (ha : In a 0 1000000) (hb : In b 0 1000000) (hP : PowAt w) :
    Calls Tryd.prog 97 #[.agg #[.int .i64 a, .int .i64 b]] w fun e w' => e = .returned (.string (pairT a b)) ∧ Below w.heap.size w w' := by
  have hb0 : Below w.heap.size w (w.alloc (.cells #[.int .i64 a, .int .i64 b] 89)) := push (Below.refl _ _) _
  have b0 := heap_alloc_new w (.cells #[.int .i64 a, .int .i64 b] 89)
  have HP : Hid (PowAt w) := hP
  clear hP
  go_enter Tryd.func97, Tryd.ntmps97
  go_upto_region 1 with fail
  generalize w.alloc (.cells #[.int .i64 a, .int .i64 b] 89) = W at hb0 b0 ⊢
  have y0 := blk_cell b0 0 _ rfl
  have y1 := blk_cell b0 1 _ rfl
  go_wp2_with fail
  refine (pairText_any a b _ ha hb (HP.out.below hb0)).mono ?_
  rintro e w2 ⟨rfl, hb2⟩
  go_wp2
  go_ret
  exact ⟨rfl, after hb0 hb2⟩

set_option maxHeartbeats 800000 in
theorem listLane_any (ao : Option Addr) (cap : Nat) (p : Pairs) (w : World) (hp : SmallP p) (hz : PairsAt w ao p) (hP : PowAt w) :
    Calls Tryd.prog 96 #[.slice ao p.n cap, .func (.func 97) #[] #[]] w fun e w' => e = .returned (.string (pairsT p)) ∧ Below w.heap.size w w' := by
  have HN : Hid (SmallP p) := hp
  have hn6 := hp.1
  have HZ : Hid (PairsAt w ao p) := hz
  have HP : Hid (PowAt w) := hP
  obtain ⟨n, hn⟩ : ∃ n, n = p.n := ⟨_, rfl⟩
  have HE : Hid (p.n = n) := hn.symm
  rw [← hn] at hn6 ⊢
  clear hP hp hz hn
  by_cases h0 : n = 0
  · have d0 : ((n : Int) == 0) = true := by rw [beq_iff_eq]; omega
    have ER : Hid ((⟨#[45]⟩ : ByteArray) = pairsT p) := by show _ = pairsT p; unfold pairsT; rw [if_pos (by rw [HE.out]; exact h0)]
    clear h0
    go_enter Tryd.func96, Tryd.ntmps96
    go_wp2
    go_ret
    exact ⟨congrArg (fun z => Ending.returned (Value.string z)) ER.out, Below.refl _ _⟩
  have hmk := run_make_row' (P := Tryd.prog) 64 9 (.string ⟨#[]⟩) 16 Tryd.underlying64 Tryd.infoText rfl .i64 .i64 n (by omega) (by omega)
  have d0 : ((n : Int) == 0) = false := by rw [beq_eq_false_iff_ne]; omega
  go_enter Tryd.func96, Tryd.ntmps96
  go_wp2
  go_loopw [6, 7, 16] (fun _ _ i wr => ∃ k : Nat, k ≤ n ∧ i = .int .i64 k ∧ Hid (wr.rowIs w.heap.size 9 n (fun j => if j < k then .string (pairT (p.A j) (p.B j)) else .string ⟨#[]⟩)) ∧ Below w.heap.size w wr)
    (fun _ _ i _ => n - (intOf i).toNat)
  case atStart => exact ⟨0, Nat.zero_le _, rfl, (World.rowIs_made _ _ _ _).congr (by simp), (Below.refl _ _).alloc (Nat.le_refl _) _⟩
  case round =>
    obtain ⟨k, hk, rfl, HROW, hbel⟩ := hrel
    by_cases hlt : k < n
    · obtain ⟨b, off, rfl, hc, hd⟩ := HZ.out k (by rw [HE.out]; exact hlt)
      have hc' : wr.cell? ⟨b, off + k * 2, none⟩ = some (.int .i64 (p.A k)) := (hbel.cell (World.block_lt_of_cell? w _ hc)).trans hc
      have hd' : wr.cell? ⟨b, off + k * 2 + 1, none⟩ = some (.int .i64 (p.B k)) := (hbel.cell (World.block_lt_of_cell? w _ hd)).trans hd
      have hik := HN.out.2 k (by rw [HE.out]; exact hlt)
      have HIK : Hid (In (p.A k) 0 1000000 ∧ In (p.B k) 0 1000000) := hik
      clear hc hd hik
      have hb1 : Below w.heap.size w (wr.alloc (.cells #[.int .i64 (p.A k), .int .i64 (p.B k)] 89)) := push hbel _
      have b1 := heap_alloc_new wr (.cells #[.int .i64 (p.A k), .int .i64 (p.B k)] 89)
      have HR1 : Hid _ := row_below HROW.out (push (Below.refl _ _) (.cells #[.int .i64 (p.A k), .int .i64 (p.B k)] 89))
      go_upto_region 7 with fail
      generalize wr.alloc (.cells #[.int .i64 (p.A k), .int .i64 (p.B k)] 89) = W at hb1 b1 HR1 ⊢
      have y0 := blk_cell b1 0 _ rfl
      have y1 := blk_cell b1 1 _ rfl
      clear hc' hd' HROW
      go_wp2_with fail
      refine (laneText_any (p.A k) (p.B k) _ HIK.out.1 HIK.out.2 (HP.out.below hb1)).mono ?_
      rintro e w2 ⟨rfl, hb2⟩
      have hrow2 := row_below HR1.out hb2
      have hbel2 := after hb1 hb2
      have ho := hrow2.cell (i := k) hlt
      have hf := hrow2.frozen k
      simp only [Nat.lt_irrefl, if_false] at ho
      have HR2 : Hid (w2.rowIs w.heap.size 9 n (fun j => if j < k then .string (pairT (p.A j) (p.B j)) else .string ⟨#[]⟩)) := hrow2
      clear HR1 hbel hb2 hb1 b1 y0 y1 hrow2
      go_wp2
      go_roundw
      case rel => exact ⟨k + 1, by omega, by go_num, (World.rowIs.set HR2.out k _).congr (fun j hj => fill_step (fun j => Value.string (pairT (p.A j) (p.B j))) _ k j), hbel2.setCell (Nat.le_refl _) _⟩
      case measure => simp [intOf]; omega
    · have hfull : wr.rowIs w.heap.size 9 n (fun j => .string (pairT (p.A j) (p.B j))) := HROW.out.congr (fun j hj => by rw [if_pos (by omega)])
      have HF : Hid (wr.rowIs w.heap.size 9 n (fun j => .string (pairT (p.A j) (p.B j)))) := hfull
      have hsz := pairs_joined HN.out
      rw [HE.out] at hsz
      have ER : Hid (joinT coT ((List.range n).map (fun i => pairT (p.A i) (p.B i))) = pairsT p) := by show _ = pairsT p; unfold pairsT; rw [HE.out, if_neg h0]
      clear HROW hfull
      go_wp2_with fail
      refine (join_row coT w.heap.size n (fun i => pairT (p.A i) (p.B i)) _ HF.out (by omega) (by omega) (by omega)).mono ?_
      rintro e w3 ⟨rfl, hb3⟩
      go_wp2
      go_ret
      exact ⟨congrArg (fun z => Ending.returned (Value.string z)) ER.out, after hbel hb3⟩

theorem cabinText_any (a b : Int) (w : World) (ha : In a 0 1000000) (hb : In b 0 1000000) (hP : PowAt w) :
    Calls Tryd.prog 99 #[.agg #[.int .i64 a, .int .i64 b]] w fun e w' => e = .returned (.string (pairT a b)) ∧ Below w.heap.size w w' := by
  have hb0 : Below w.heap.size w (w.alloc (.cells #[.int .i64 a, .int .i64 b] 91)) := push (Below.refl _ _) _
  have b0 := heap_alloc_new w (.cells #[.int .i64 a, .int .i64 b] 91)
  have HP : Hid (PowAt w) := hP
  clear hP
  go_enter Tryd.func99, Tryd.ntmps99
  go_upto_region 1 with fail
  generalize w.alloc (.cells #[.int .i64 a, .int .i64 b] 91) = W at hb0 b0 ⊢
  have y0 := blk_cell b0 0 _ rfl
  have y1 := blk_cell b0 1 _ rfl
  go_wp2_with fail
  refine (pairText_any a b _ ha hb (HP.out.below hb0)).mono ?_
  rintro e w2 ⟨rfl, hb2⟩
  go_wp2
  go_ret
  exact ⟨rfl, after hb0 hb2⟩

set_option maxHeartbeats 800000 in
theorem listCabin_any (ao : Option Addr) (cap : Nat) (p : Pairs) (w : World) (hp : SmallP p) (hz : PairsAt w ao p) (hP : PowAt w) :
    Calls Tryd.prog 98 #[.slice ao p.n cap, .func (.func 99) #[] #[]] w fun e w' => e = .returned (.string (pairsT p)) ∧ Below w.heap.size w w' := by
  have HN : Hid (SmallP p) := hp
  have hn6 := hp.1
  have HZ : Hid (PairsAt w ao p) := hz
  have HP : Hid (PowAt w) := hP
  obtain ⟨n, hn⟩ : ∃ n, n = p.n := ⟨_, rfl⟩
  have HE : Hid (p.n = n) := hn.symm
  rw [← hn] at hn6 ⊢
  clear hP hp hz hn
  by_cases h0 : n = 0
  · have d0 : ((n : Int) == 0) = true := by rw [beq_iff_eq]; omega
    have ER : Hid ((⟨#[45]⟩ : ByteArray) = pairsT p) := by show _ = pairsT p; unfold pairsT; rw [if_pos (by rw [HE.out]; exact h0)]
    clear h0
    go_enter Tryd.func98, Tryd.ntmps98
    go_wp2
    go_ret
    exact ⟨congrArg (fun z => Ending.returned (Value.string z)) ER.out, Below.refl _ _⟩
  have hmk := run_make_row' (P := Tryd.prog) 64 9 (.string ⟨#[]⟩) 16 Tryd.underlying64 Tryd.infoText rfl .i64 .i64 n (by omega) (by omega)
  have d0 : ((n : Int) == 0) = false := by rw [beq_eq_false_iff_ne]; omega
  go_enter Tryd.func98, Tryd.ntmps98
  go_wp2
  go_loopw [6, 7, 16] (fun _ _ i wr => ∃ k : Nat, k ≤ n ∧ i = .int .i64 k ∧ Hid (wr.rowIs w.heap.size 9 n (fun j => if j < k then .string (pairT (p.A j) (p.B j)) else .string ⟨#[]⟩)) ∧ Below w.heap.size w wr)
    (fun _ _ i _ => n - (intOf i).toNat)
  case atStart => exact ⟨0, Nat.zero_le _, rfl, (World.rowIs_made _ _ _ _).congr (by simp), (Below.refl _ _).alloc (Nat.le_refl _) _⟩
  case round =>
    obtain ⟨k, hk, rfl, HROW, hbel⟩ := hrel
    by_cases hlt : k < n
    · obtain ⟨b, off, rfl, hc, hd⟩ := HZ.out k (by rw [HE.out]; exact hlt)
      have hc' : wr.cell? ⟨b, off + k * 2, none⟩ = some (.int .i64 (p.A k)) := (hbel.cell (World.block_lt_of_cell? w _ hc)).trans hc
      have hd' : wr.cell? ⟨b, off + k * 2 + 1, none⟩ = some (.int .i64 (p.B k)) := (hbel.cell (World.block_lt_of_cell? w _ hd)).trans hd
      have hik := HN.out.2 k (by rw [HE.out]; exact hlt)
      have HIK : Hid (In (p.A k) 0 1000000 ∧ In (p.B k) 0 1000000) := hik
      clear hc hd hik
      have hb1 : Below w.heap.size w (wr.alloc (.cells #[.int .i64 (p.A k), .int .i64 (p.B k)] 91)) := push hbel _
      have b1 := heap_alloc_new wr (.cells #[.int .i64 (p.A k), .int .i64 (p.B k)] 91)
      have HR1 : Hid _ := row_below HROW.out (push (Below.refl _ _) (.cells #[.int .i64 (p.A k), .int .i64 (p.B k)] 91))
      go_upto_region 7 with fail
      generalize wr.alloc (.cells #[.int .i64 (p.A k), .int .i64 (p.B k)] 91) = W at hb1 b1 HR1 ⊢
      have y0 := blk_cell b1 0 _ rfl
      have y1 := blk_cell b1 1 _ rfl
      clear hc' hd' HROW
      go_wp2_with fail
      refine (cabinText_any (p.A k) (p.B k) _ HIK.out.1 HIK.out.2 (HP.out.below hb1)).mono ?_
      rintro e w2 ⟨rfl, hb2⟩
      have hrow2 := row_below HR1.out hb2
      have hbel2 := after hb1 hb2
      have ho := hrow2.cell (i := k) hlt
      have hf := hrow2.frozen k
      simp only [Nat.lt_irrefl, if_false] at ho
      have HR2 : Hid (w2.rowIs w.heap.size 9 n (fun j => if j < k then .string (pairT (p.A j) (p.B j)) else .string ⟨#[]⟩)) := hrow2
      clear HR1 hbel hb2 hb1 b1 y0 y1 hrow2
      go_wp2
      go_roundw
      case rel => exact ⟨k + 1, by omega, by go_num, (World.rowIs.set HR2.out k _).congr (fun j hj => fill_step (fun j => Value.string (pairT (p.A j) (p.B j))) _ k j), hbel2.setCell (Nat.le_refl _) _⟩
      case measure => simp [intOf]; omega
    · have hfull : wr.rowIs w.heap.size 9 n (fun j => .string (pairT (p.A j) (p.B j))) := HROW.out.congr (fun j hj => by rw [if_pos (by omega)])
      have HF : Hid (wr.rowIs w.heap.size 9 n (fun j => .string (pairT (p.A j) (p.B j)))) := hfull
      have hsz := pairs_joined HN.out
      rw [HE.out] at hsz
      have ER : Hid (joinT coT ((List.range n).map (fun i => pairT (p.A i) (p.B i))) = pairsT p) := by show _ = pairsT p; unfold pairsT; rw [HE.out, if_neg h0]
      clear HROW hfull
      go_wp2_with fail
      refine (join_row coT w.heap.size n (fun i => pairT (p.A i) (p.B i)) _ HF.out (by omega) (by omega) (by omega)).mono ?_
      rintro e w3 ⟨rfl, hb3⟩
      go_wp2
      go_ret
      exact ⟨congrArg (fun z => Ending.returned (Value.string z)) ER.out, after hbel hb3⟩

end Go.Proofs.YtfbooamjddnagaaDoor

namespace Go.Proofs.YtfbooamjddnagaaDoor
open Go.RowKit

theorem sailingId_is (x : Int) (w : World) :
    Calls Tryd.prog 92 #[.int .i64 x] w fun e w' => e = .returned (.bool (decide (In x 1 99))) ∧ w' = w := by
  go_enter Tryd.func92, Tryd.ntmps92
  go_wp2_with (first | (go_at_call 69; refine (within_is _ _ _ _).mono ?_; rintro e w' ⟨rfl, rfl⟩))
  go_ret
  exact ⟨rfl, rfl⟩

set_option maxHeartbeats 400000 in
theorem unlikeNames_is (a b : ByteArray) (w : World) (ha : a.size ≤ 1000000000000000) (hb : b.size ≤ 1000000000000000) :
    Calls Tryd.prog 93 #[.string a, .string b] w fun e w' => e = .returned (.bool (decide (Unlike a b))) ∧ w' = w := by
  obtain ⟨c, hc⟩ : ∃ c, c = decide (Unlike a b) := ⟨_, rfl⟩
  rw [← hc]
  have HC : Hid (c = decide (Unlike a b)) := hc
  clear hc
  by_cases n1 : IsName a
  · have d1 : decide (IsName a) = true := decide_eq_true n1
    by_cases n2 : IsName b
    · have d2 : decide (IsName b) = true := decide_eq_true n2
      by_cases n3 : a = b
      · subst n3
        have e3 : (a.toList == a.toList) = true := bytes_eq.2 rfl
        have HN : Hid (¬ Unlike a a) := fun h => h.2.2 rfl
        clear n1 n2
        go_enter Tryd.func93, Tryd.ntmps93
        go_wp2_with (first | (go_at_call 71; refine (isName_is _ _ ha).mono ?_; rintro e w' ⟨rfl, hw'⟩; have hw' := hw'.symm; subst hw'))
        go_ret
        exact ⟨by rw [HC.out, decide_eq_false HN.out]; rfl, rfl⟩
      · have e3 : (a.toList == b.toList) = false := bytes_ne.2 n3
        have HN : Hid (Unlike a b) := ⟨n1, n2, n3⟩
        clear n1 n2 n3
        go_enter Tryd.func93, Tryd.ntmps93
        go_wp2_with fail
        refine (isName_is _ _ ha).mono ?_
        rintro e w' ⟨rfl, hw'⟩
        have hw' := hw'.symm
        subst hw'
        go_wp2_with fail
        refine (isName_is _ _ hb).mono ?_
        rintro e w' ⟨rfl, hw'⟩
        have hw' := hw'.symm
        subst hw'
        go_wp2
        go_ret
        exact ⟨by rw [HC.out, decide_eq_true HN.out]; rfl, rfl⟩
    · have d2 : decide (IsName b) = false := decide_eq_false n2
      have HN : Hid (¬ Unlike a b) := fun h => n2 h.2.1
      clear n1 n2
      go_enter Tryd.func93, Tryd.ntmps93
      go_wp2_with fail
      refine (isName_is _ _ ha).mono ?_
      rintro e w' ⟨rfl, hw'⟩
      have hw' := hw'.symm
      subst hw'
      go_wp2_with fail
      refine (isName_is _ _ hb).mono ?_
      rintro e w' ⟨rfl, hw'⟩
      have hw' := hw'.symm
      subst hw'
      go_wp2
      go_ret
      exact ⟨by rw [HC.out, decide_eq_false HN.out]; rfl, rfl⟩
  · have d1 : decide (IsName a) = false := decide_eq_false n1
    have HN : Hid (¬ Unlike a b) := fun h => n1 h.1
    clear n1
    go_enter Tryd.func93, Tryd.ntmps93
    go_wp2_with fail
    refine (isName_is _ _ ha).mono ?_
    rintro e w' ⟨rfl, hw'⟩
    have hw' := hw'.symm
    subst hw'
    go_wp2
    go_ret
    exact ⟨by rw [HC.out, decide_eq_false HN.out]; rfl, rfl⟩

end Go.Proofs.YtfbooamjddnagaaDoor

namespace Go.Proofs.YtfbooamjddnagaaDoor
open Go.RowKit

set_option maxHeartbeats 800000 in
set_option maxRecDepth 100000 in
theorem goodLanes_any (ao : Option Addr) (n c : Nat) (p : Pairs) (w : World) (hl : p.n = n) (hn : n ≤ 1048576) (hz : PairsAt w ao p) :
    Calls Tryd.prog 94 #[.slice ao n c] w fun e w' => SaysIf (GoodPairs p 4 1 5000 100 500) e ∧ Below w.heap.size w w' := by
  have HL : Hid (p.n = n) := hl
  clear hl
  by_cases h0 : n ≤ 4
  · have d0 : decide (4 < n) = false := by simp; omega
    go_enter Tryd.func94, Tryd.ntmps94
    go_wp2
    go_loopw [4, 10] (fun _ i wr => ∃ k : Nat, k ≤ n ∧ i = .int .i64 k ∧ (∀ j, j < k → In (p.A j) 1 5000 ∧ In (p.B j) 100 500) ∧ Below w.heap.size w wr) (fun _ i _ => n - (intOf i).toNat)
    case atStart => exact ⟨0, Nat.zero_le _, rfl, fun j hj => by omega, Below.refl _ _⟩
    case round =>
      obtain ⟨k, hk, rfl, hall, hbel⟩ := hrel
      have HA : Hid (∀ j, j < k → In (p.A j) 1 5000 ∧ In (p.B j) 100 500) := hall
      clear hall d0
      by_cases hlt : k < n
      · obtain ⟨b, off, rfl, h1, h2⟩ := hz k (by rw [HL.out]; omega)
        have hb := World.block_lt_of_cell? w _ h1
        have c1 := (hbel.cell (p := ⟨b, off + k * 2, none⟩) hb).trans h1
        have c2 := (hbel.cell (p := ⟨b, off + k * 2 + 1, none⟩) hb).trans h2
        clear h1 h2
        by_cases g1 : In (p.A k) 1 5000
        · have e1 : decide (In (p.A k) 1 5000) = true := decide_eq_true g1
          by_cases g2 : In (p.B k) 100 500
          · have e2 : decide (In (p.B k) 100 500) = true := decide_eq_true g2
            have HK : Hid (In (p.A k) 1 5000 ∧ In (p.B k) 100 500) := ⟨g1, g2⟩
            clear g1 g2
            go_wp2_with (first | (go_at_call 69; refine (within_is _ _ _ _).mono ?_; rintro e w' ⟨rfl, hw'⟩; have hw' := hw'.symm; subst hw'))
            go_roundw
            case rel => exact ⟨k + 1, by omega, by go_num, fun j hj => by
              by_cases e : j = k
              · subst e; exact HK.out
              · exact HA.out j (by omega), push hbel _⟩
            case measure => simp [intOf]; omega
          · have e2 : decide (In (p.B k) 100 500) = false := decide_eq_false g2
            have HK : Hid (¬ In (p.B k) 100 500) := g2
            clear g1 g2
            go_wp2_with (first | (go_at_call 69; refine (within_is _ _ _ _).mono ?_; rintro e w' ⟨rfl, hw'⟩; have hw' := hw'.symm; subst hw'))
            go_ret
            exact ⟨says_no (fun h => HK.out (h.2 k (by rw [HL.out]; exact hlt)).2), push hbel _⟩
        · have e1 : decide (In (p.A k) 1 5000) = false := decide_eq_false g1
          have HK : Hid (¬ In (p.A k) 1 5000) := g1
          clear g1
          go_wp2_with (first | (go_at_call 69; refine (within_is _ _ _ _).mono ?_; rintro e w' ⟨rfl, hw'⟩; have hw' := hw'.symm; subst hw'))
          go_ret
          exact ⟨says_no (fun h => HK.out (h.2 k (by rw [HL.out]; exact hlt)).1), push hbel _⟩
      · obtain rfl : k = n := by omega
        go_wp2
        go_ret
        exact ⟨says_yes ⟨by rw [HL.out]; exact h0, fun j hj => HA.out j (by rw [HL.out] at hj; exact hj)⟩, hbel⟩
  · have d0 : decide (4 < n) = true := by simp; omega
    go_enter Tryd.func94, Tryd.ntmps94
    go_wp2
    go_ret
    exact ⟨says_no (fun h => by have := h.1; rw [HL.out] at this; exact h0 this), Below.refl _ _⟩

end Go.Proofs.YtfbooamjddnagaaDoor

namespace Go.Proofs.YtfbooamjddnagaaDoor
open Go.RowKit

set_option maxHeartbeats 800000 in
set_option maxRecDepth 100000 in
theorem goodCabins_any (ao : Option Addr) (n c : Nat) (p : Pairs) (w : World) (hl : p.n = n) (hn : n ≤ 1048576) (hz : PairsAt w ao p) :
    Calls Tryd.prog 95 #[.slice ao n c] w fun e w' => SaysIf (GoodPairs p 6 1 3 1 4) e ∧ Below w.heap.size w w' := by
  have HL : Hid (p.n = n) := hl
  clear hl
  by_cases h0 : n ≤ 6
  · have d0 : decide (6 < n) = false := by simp; omega
    go_enter Tryd.func95, Tryd.ntmps95
    go_wp2
    go_loopw [4, 10] (fun _ i wr => ∃ k : Nat, k ≤ n ∧ i = .int .i64 k ∧ (∀ j, j < k → In (p.A j) 1 3 ∧ In (p.B j) 1 4) ∧ Below w.heap.size w wr) (fun _ i _ => n - (intOf i).toNat)
    case atStart => exact ⟨0, Nat.zero_le _, rfl, fun j hj => by omega, Below.refl _ _⟩
    case round =>
      obtain ⟨k, hk, rfl, hall, hbel⟩ := hrel
      have HA : Hid (∀ j, j < k → In (p.A j) 1 3 ∧ In (p.B j) 1 4) := hall
      clear hall d0
      by_cases hlt : k < n
      · obtain ⟨b, off, rfl, h1, h2⟩ := hz k (by rw [HL.out]; omega)
        have hb := World.block_lt_of_cell? w _ h1
        have c1 := (hbel.cell (p := ⟨b, off + k * 2, none⟩) hb).trans h1
        have c2 := (hbel.cell (p := ⟨b, off + k * 2 + 1, none⟩) hb).trans h2
        clear h1 h2
        by_cases g1 : In (p.A k) 1 3
        · have e1 : decide (In (p.A k) 1 3) = true := decide_eq_true g1
          by_cases g2 : In (p.B k) 1 4
          · have e2 : decide (In (p.B k) 1 4) = true := decide_eq_true g2
            have HK : Hid (In (p.A k) 1 3 ∧ In (p.B k) 1 4) := ⟨g1, g2⟩
            clear g1 g2
            go_wp2_with (first | (go_at_call 120; refine (class_is _ _).mono ?_; rintro e w' ⟨rfl, hw'⟩; have hw' := hw'.symm; subst hw') | (go_at_call 121; refine (berths_is _ _).mono ?_; rintro e w' ⟨rfl, hw'⟩; have hw' := hw'.symm; subst hw'))
            go_roundw
            case rel => exact ⟨k + 1, by omega, by go_num, fun j hj => by
              by_cases e : j = k
              · subst e; exact HK.out
              · exact HA.out j (by omega), push hbel _⟩
            case measure => simp [intOf]; omega
          · have e2 : decide (In (p.B k) 1 4) = false := decide_eq_false g2
            have HK : Hid (¬ In (p.B k) 1 4) := g2
            clear g1 g2
            go_wp2_with (first | (go_at_call 120; refine (class_is _ _).mono ?_; rintro e w' ⟨rfl, hw'⟩; have hw' := hw'.symm; subst hw') | (go_at_call 121; refine (berths_is _ _).mono ?_; rintro e w' ⟨rfl, hw'⟩; have hw' := hw'.symm; subst hw'))
            go_ret
            exact ⟨says_no (fun h => HK.out (h.2 k (by rw [HL.out]; exact hlt)).2), push hbel _⟩
        · have e1 : decide (In (p.A k) 1 3) = false := decide_eq_false g1
          have HK : Hid (¬ In (p.A k) 1 3) := g1
          clear g1
          go_wp2_with (first | (go_at_call 120; refine (class_is _ _).mono ?_; rintro e w' ⟨rfl, hw'⟩; have hw' := hw'.symm; subst hw') | (go_at_call 121; refine (berths_is _ _).mono ?_; rintro e w' ⟨rfl, hw'⟩; have hw' := hw'.symm; subst hw'))
          go_ret
          exact ⟨says_no (fun h => HK.out (h.2 k (by rw [HL.out]; exact hlt)).1), push hbel _⟩
      · obtain rfl : k = n := by omega
        go_wp2
        go_ret
        exact ⟨says_yes ⟨by rw [HL.out]; exact h0, fun j hj => HA.out j (by rw [HL.out] at hj; exact hj)⟩, hbel⟩
  · have d0 : decide (6 < n) = true := by simp; omega
    go_enter Tryd.func95, Tryd.ntmps95
    go_wp2
    go_ret
    exact ⟨says_no (fun h => by have := h.1; rw [HL.out] at this; exact h0 this), Below.refl _ _⟩

end Go.Proofs.YtfbooamjddnagaaDoor

/-
  OWN TEXT: ListI, ListS.
-/
import Derived.Test.YtfbooamjddnagaaDoorB10
import Derived.Test.YtfbooamjddnagaaDoorB04
import Derived.Test.YtfbooamjddnagaaDoorB05
namespace Go.Proofs.YtfbooamjddnagaaDoor
open Go.RowKit

theorem Tryd.infoText : (Tryd.prog.info? 9).map (fun i => (i.zero, i.size, i.bytes)) = some (some (.string ⟨#[]⟩), 1, 16) := by kernel_rfl
theorem join_row (sep : ByteArray) (g n : Nat) (F : Nat → ByteArray) (w : World) (h : w.rowIs g 9 n (fun k => .string (F k))) (hn : 0 < n) (hN : n ≤ 1048576) (hl : (joinT sep ((List.range n).map F)).size ≤ 140737488355328) :
    Calls Tryd.prog 33 #[.slice (some ⟨g, 0, none⟩) n n, .string sep] w fun e w' => e = .returned (.string (joinT sep ((List.range n).map F))) ∧ Below w.heap.size w w' := by
  have hlen : ((List.range n).map F).length = n := by simp
  have hc : ∀ (j : Nat) x, ((List.range n).map F)[j]? = some x → w.cell? ⟨g, 0 + j, none⟩ = some (.string x) := fun j x hx => by
    have hj : j < n := by
      rcases Nat.lt_or_ge j n with h' | h'
      · exact h'
      · rw [List.getElem?_eq_none (by simpa using h')] at hx; cases hx
    rw [List.getElem?_map, List.getElem?_range hj] at hx
    cases hx
    rw [Nat.zero_add]
    exact h.cell hj
  have key := Any.strings_Join Tryd.lays156 Tryd.extra156 g 0 n ((List.range n).map F) sep w hc h.lt (by omega) (by omega) (by
      have e : (joinT sep ((List.range n).map F)).size = (Lib.join (((List.range n).map F).map (·.data.toList)) sep.data.toList).length := by show (Lib.join (((List.range n).map F).map (·.data.toList)) sep.data.toList).toArray.size = _; simp
      rw [← e]; exact hl)
  rw [hlen] at key
  exact key

set_option maxHeartbeats 800000 in
theorem listInt_any (ao : Option Addr) (n cap : Nat) (f : Nat → Int) (w : World) (hn0 : 0 < n) (hn : n ≤ 3) (hz : IntsAt w ao n f) (hi : ∀ i, i < n → In (f i) 0 99999) (hP : PowAt w) :
    Calls Tryd.prog 78 #[.slice ao n cap, .func (.func 77) #[] #[]] w fun e w' => e = .returned (.string (legsT n f)) ∧ Below w.heap.size w w' := by
  have hmk := run_make_row' (P := Tryd.prog) 64 9 (.string ⟨#[]⟩) 16 Tryd.underlying64 Tryd.infoText rfl .i64 .i64 n (by omega) (by omega)
  have d0 : ((n : Int) == 0) = false := by rw [beq_eq_false_iff_ne]; omega
  have HP : Hid (PowAt w) := hP
  have HI : Hid (∀ i, i < n → In (f i) 0 99999) := hi
  clear hP hi
  go_enter Tryd.func78, Tryd.ntmps78
  go_wp2
  go_loopw [6, 7, 16] (fun _ _ i wr => ∃ k : Nat, k ≤ n ∧ i = .int .i64 k ∧ wr.rowIs w.heap.size 9 n (fun j => if j < k then .string (numT (f j)) else .string ⟨#[]⟩) ∧ Below w.heap.size w wr)
    (fun _ _ i _ => n - (intOf i).toNat)
  case atStart => exact ⟨0, Nat.zero_le _, rfl, (World.rowIs_made _ _ _ _).congr (by simp), (Below.refl _ _).alloc (Nat.le_refl _) _⟩
  case round =>
    obtain ⟨k, hk, rfl, hrow, hbel⟩ := hrel
    by_cases hlt : k < n
    · obtain ⟨b, off, rfl, hc⟩ := (hz k (by omega))
      have hc' : wr.cell? ⟨b, off + k, none⟩ = some (.int .i64 (f k)) := (hbel.cell (World.block_lt_of_cell? w _ hc)).trans hc
      have hik := HI.out k hlt
      unfold In at hik
      clear hc
      go_wp2_with fail
      refine (itoa_any (f k) (by omega) (by omega) _ (HP.out.below hbel)).mono ?_
      rintro e w2 ⟨rfl, hb2⟩
      have hrow2 := row_below hrow hb2
      have hbel2 := after hbel hb2
      have ho := hrow2.cell (i := k) hlt
      have hf := hrow2.frozen k
      simp only [Nat.lt_irrefl, if_false] at ho
      clear hrow hbel hb2
      go_wp2
      go_roundw
      case rel => exact ⟨k + 1, by omega, by go_num, (hrow2.set k _).congr (fun j hj => fill_step (fun j => Value.string (numT (f j))) _ k j), hbel2.setCell (Nat.le_refl _) _⟩
      case measure => simp [intOf]; omega
    · have hfull : wr.rowIs w.heap.size 9 n (fun j => .string (numT (f j))) := hrow.congr (fun j hj => by rw [if_pos (by omega)])
      have hsz := joinT_le coT (by show 1 ≤ 1; omega) ((List.range n).map (fun i => numT (f i))) (fun p hp => by
        obtain ⟨i, hi, rfl⟩ := List.mem_map.1 hp
        have h1 := HI.out i (by simpa using hi)
        unfold In at h1
        have := numT_size (n := f i) (by omega) (by omega)
        omega)
      have HF : Hid (wr.rowIs w.heap.size 9 n (fun j => .string (numT (f j)))) := hfull
      clear hrow hfull
      go_wp2_with fail
      refine (join_row coT w.heap.size n (fun i => numT (f i)) _ HF.out hn0 (by omega) (by rw [List.length_map, List.length_range] at hsz; omega)).mono ?_
      rintro e w3 ⟨rfl, hb3⟩
      go_wp2
      go_ret
      exact ⟨rfl, after hbel hb3⟩

end Go.Proofs.YtfbooamjddnagaaDoor

namespace Go.Proofs.YtfbooamjddnagaaDoor
open Go.RowKit

def pairT (a b : Int) : ByteArray := numT a ++ ⟨#[47]⟩ ++ numT b
/-- Pairs with a comma between, a stroke where there are none. -/
def pairsT (p : Pairs) : ByteArray := if p.n = 0 then ⟨#[45]⟩ else joinT coT ((List.range p.n).map (fun i => pairT (p.A i) (p.B i)))
theorem pairT_size {a b : Int} (ha : In a 0 1000000) (hb : In b 0 1000000) : (pairT a b).size ≤ 201 := by
  unfold In at ha hb
  have s1 := numT_size (n := a) (by omega) (by omega)
  have s2 := numT_size (n := b) (by omega) (by omega)
  unfold pairT
  rw [ByteArray.size_append, ByteArray.size_append]
  show _ + 1 + _ ≤ 201
  omega
def SmallP (p : Pairs) : Prop := p.n ≤ 6 ∧ ∀ i, i < p.n → In (p.A i) 0 1000000 ∧ In (p.B i) 0 1000000
theorem pairs_joined {p : Pairs} (h : SmallP p) : (joinT coT ((List.range p.n).map (fun i => pairT (p.A i) (p.B i)))).size ≤ 6006 := by
  have := joinT_le coT (by show 1 ≤ 1; omega) ((List.range p.n).map (fun i => pairT (p.A i) (p.B i))) (fun q hq => by
    obtain ⟨i, hi, rfl⟩ := List.mem_map.1 hq
    have h3 := h.2 i (by simpa using hi)
    have := pairT_size h3.1 h3.2
    omega)
  rw [List.length_map, List.length_range] at this
  have := h.1
  omega
theorem pairsT_size {p : Pairs} (h : SmallP p) : (pairsT p).size ≤ 6006 := by
  unfold pairsT
  split
  · show 1 ≤ 6006; omega
  · exact pairs_joined h

theorem laneText_any (a b : Int) (w : World) (ha : In a 0 1000000) (hb : In b 0 1000000) (hP : PowAt w) :
    Calls Tryd.prog 97 #[.agg #[.int .i64 a, .int .i64 b]] w fun e w' => e = .returned (.string (pairT a b)) ∧ Below w.heap.size w w' := by
  have hb0 : Below w.heap.size w (w.alloc (.cells #[.int .i64 a, .int .i64 b] 89)) := push (Below.refl _ _) _
  have b0 := heap_alloc_new w (.cells #[.int .i64 a, .int .i64 b] 89)
  have HP : Hid (PowAt w) := hP
  clear hP
  go_enter Tryd.func97, Tryd.ntmps97
  go_upto_region 1 with fail
  generalize w.alloc (.cells #[.int .i64 a, .int .i64 b] 89) = W at hb0 b0 ⊢
  have y0 := blk_cell b0 0 _ rfl
  have y1 := blk_cell b0 1 _ rfl
  go_wp2_with fail
  refine (pairText_any a b _ ha hb (HP.out.below hb0)).mono ?_
  rintro e w2 ⟨rfl, hb2⟩
  go_wp2
  go_ret
  exact ⟨rfl, after hb0 hb2⟩

set_option maxHeartbeats 800000 in
theorem listLane_any (ao : Option Addr) (cap : Nat) (p : Pairs) (w : World) (hp : SmallP p) (hz : PairsAt w ao p) (hP : PowAt w) :
    Calls Tryd.prog 96 #[.slice ao p.n cap, .func (.func 97) #[] #[]] w fun e w' => e = .returned (.string (pairsT p)) ∧ Below w.heap.size w w' := by
  have HN : Hid (SmallP p) := hp
  have hn6 := hp.1
  have HZ : Hid (PairsAt w ao p) := hz
  have HP : Hid (PowAt w) := hP
  obtain ⟨n, hn⟩ : ∃ n, n = p.n := ⟨_, rfl⟩
  have HE : Hid (p.n = n) := hn.symm
  rw [← hn] at hn6 ⊢
  clear hP hp hz hn
  by_cases h0 : n = 0
  · have d0 : ((n : Int) == 0) = true := by rw [beq_iff_eq]; omega
    have ER : Hid ((⟨#[45]⟩ : ByteArray) = pairsT p) := by show _ = pairsT p; unfold pairsT; rw [if_pos (by rw [HE.out]; exact h0)]
    clear h0
    go_enter Tryd.func96, Tryd.ntmps96
    go_wp2
    go_ret
    exact ⟨congrArg (fun z => Ending.returned (Value.string z)) ER.out, Below.refl _ _⟩
  have hmk := run_make_row' (P := Tryd.prog) 64 9 (.string ⟨#[]⟩) 16 Tryd.underlying64 Tryd.infoText rfl .i64 .i64 n (by omega) (by omega)
  have d0 : ((n : Int) == 0) = false := by rw [beq_eq_false_iff_ne]; omega
  go_enter Tryd.func96, Tryd.ntmps96
  go_wp2
  go_loopw [6, 7, 16] (fun _ _ i wr => ∃ k : Nat, k ≤ n ∧ i = .int .i64 k ∧ Hid (wr.rowIs w.heap.size 9 n (fun j => if j < k then .string (pairT (p.A j) (p.B j)) else .string ⟨#[]⟩)) ∧ Below w.heap.size w wr)
    (fun _ _ i _ => n - (intOf i).toNat)
  case atStart => exact ⟨0, Nat.zero_le _, rfl, (World.rowIs_made _ _ _ _).congr (by simp), (Below.refl _ _).alloc (Nat.le_refl _) _⟩
  case round =>
    obtain ⟨k, hk, rfl, HROW, hbel⟩ := hrel
    by_cases hlt : k < n
    · obtain ⟨b, off, rfl, hc, hd⟩ := HZ.out k (by rw [HE.out]; exact hlt)
      have hc' : wr.cell? ⟨b, off + k * 2, none⟩ = some (.int .i64 (p.A k)) := (hbel.cell (World.block_lt_of_cell? w _ hc)).trans hc
      have hd' : wr.cell? ⟨b, off + k * 2 + 1, none⟩ = some (.int .i64 (p.B k)) := (hbel.cell (World.block_lt_of_cell? w _ hd)).trans hd
      have hik := HN.out.2 k (by rw [HE.out]; exact hlt)
      have HIK : Hid (In (p.A k) 0 1000000 ∧ In (p.B k) 0 1000000) := hik
      clear hc hd hik
      have hb1 : Below w.heap.size w (wr.alloc (.cells #[.int .i64 (p.A k), .int .i64 (p.B k)] 89)) := push hbel _
      have b1 := heap_alloc_new wr (.cells #[.int .i64 (p.A k), .int .i64 (p.B k)] 89)
      have HR1 : Hid _ := row_below HROW.out (push (Below.refl _ _) (.cells #[.int .i64 (p.A k), .int .i64 (p.B k)] 89))
      go_upto_region 7 with fail
      generalize wr.alloc (.cells #[.int .i64 (p.A k), .int .i64 (p.B k)] 89) = W at hb1 b1 HR1 ⊢
      have y0 := blk_cell b1 0 _ rfl
      have y1 := blk_cell b1 1 _ rfl
      clear hc' hd' HROW
      go_wp2_with fail
      refine (laneText_any (p.A k) (p.B k) _ HIK.out.1 HIK.out.2 (HP.out.below hb1)).mono ?_
      rintro e w2 ⟨rfl, hb2⟩
      have hrow2 := row_below HR1.out hb2
      have hbel2 := after hb1 hb2
      have ho := hrow2.cell (i := k) hlt
      have hf := hrow2.frozen k
      simp only [Nat.lt_irrefl, if_false] at ho
      have HR2 : Hid (w2.rowIs w.heap.size 9 n (fun j => if j < k then .string (pairT (p.A j) (p.B j)) else .string ⟨#[]⟩)) := hrow2
      clear HR1 hbel hb2 hb1 b1 y0 y1 hrow2
      go_wp2
      go_roundw
      case rel => exact ⟨k + 1, by omega, by go_num, (World.rowIs.set HR2.out k _).congr (fun j hj => fill_step (fun j => Value.string (pairT (p.A j) (p.B j))) _ k j), hbel2.setCell (Nat.le_refl _) _⟩
      case measure => simp [intOf]; omega
    · have hfull : wr.rowIs w.heap.size 9 n (fun j => .string (pairT (p.A j) (p.B j))) := HROW.out.congr (fun j hj => by rw [if_pos (by omega)])
      have HF : Hid (wr.rowIs w.heap.size 9 n (fun j => .string (pairT (p.A j) (p.B j)))) := hfull
      have hsz := pairs_joined HN.out
      rw [HE.out] at hsz
      have ER : Hid (joinT coT ((List.range n).map (fun i => pairT (p.A i) (p.B i))) = pairsT p) := by show _ = pairsT p; unfold pairsT; rw [HE.out, if_neg h0]
      clear HROW hfull
      go_wp2_with fail
      refine (join_row coT w.heap.size n (fun i => pairT (p.A i) (p.B i)) _ HF.out (by omega) (by omega) (by omega)).mono ?_
      rintro e w3 ⟨rfl, hb3⟩
      go_wp2
      go_ret
      exact ⟨congrArg (fun z => Ending.returned (Value.string z)) ER.out, after hbel hb3⟩

theorem cabinText_any (a b : Int) (w : World) (ha : In a 0 1000000) (hb : In b 0 1000000) (hP : PowAt w) :
    Calls Tryd.prog 99 #[.agg #[.int .i64 a, .int .i64 b]] w fun e w' => e = .returned (.string (pairT a b)) ∧ Below w.heap.size w w' := by
  have hb0 : Below w.heap.size w (w.alloc (.cells #[.int .i64 a, .int .i64 b] 91)) := push (Below.refl _ _) _
  have b0 := heap_alloc_new w (.cells #[.int .i64 a, .int .i64 b] 91)
  have HP : Hid (PowAt w) := hP
  clear hP
  go_enter Tryd.func99, Tryd.ntmps99
  go_upto_region 1 with fail
  generalize w.alloc (.cells #[.int .i64 a, .int .i64 b] 91) = W at hb0 b0 ⊢
  have y0 := blk_cell b0 0 _ rfl
  have y1 := blk_cell b0 1 _ rfl
  go_wp2_with fail
  refine (pairText_any a b _ ha hb (HP.out.below hb0)).mono ?_
  rintro e w2 ⟨rfl, hb2⟩
  go_wp2
  go_ret
  exact ⟨rfl, after hb0 hb2⟩

set_option maxHeartbeats 800000 in
theorem listCabin_any (ao : Option Addr) (cap : Nat) (p : Pairs) (w : World) (hp : SmallP p) (hz : PairsAt w ao p) (hP : PowAt w) :
    Calls Tryd.prog 98 #[.slice ao p.n cap, .func (.func 99) #[] #[]] w fun e w' => e = .returned (.string (pairsT p)) ∧ Below w.heap.size w w' := by
  have HN : Hid (SmallP p) := hp
  have hn6 := hp.1
  have HZ : Hid (PairsAt w ao p) := hz
  have HP : Hid (PowAt w) := hP
  obtain ⟨n, hn⟩ : ∃ n, n = p.n := ⟨_, rfl⟩
  have HE : Hid (p.n = n) := hn.symm
  rw [← hn] at hn6 ⊢
  clear hP hp hz hn
  by_cases h0 : n = 0
  · have d0 : ((n : Int) == 0) = true := by rw [beq_iff_eq]; omega
    have ER : Hid ((⟨#[45]⟩ : ByteArray) = pairsT p) := by show _ = pairsT p; unfold pairsT; rw [if_pos (by rw [HE.out]; exact h0)]
    clear h0
    go_enter Tryd.func98, Tryd.ntmps98
    go_wp2
    go_ret
    exact ⟨congrArg (fun z => Ending.returned (Value.string z)) ER.out, Below.refl _ _⟩
  have hmk := run_make_row' (P := Tryd.prog) 64 9 (.string ⟨#[]⟩) 16 Tryd.underlying64 Tryd.infoText rfl .i64 .i64 n (by omega) (by omega)
  have d0 : ((n : Int) == 0) = false := by rw [beq_eq_false_iff_ne]; omega
  go_enter Tryd.func98, Tryd.ntmps98
  go_wp2
  go_loopw [6, 7, 16] (fun _ _ i wr => ∃ k : Nat, k ≤ n ∧ i = .int .i64 k ∧ Hid (wr.rowIs w.heap.size 9 n (fun j => if j < k then .string (pairT (p.A j) (p.B j)) else .string ⟨#[]⟩)) ∧ Below w.heap.size w wr)
    (fun _ _ i _ => n - (intOf i).toNat)
  case atStart => exact ⟨0, Nat.zero_le _, rfl, (World.rowIs_made _ _ _ _).congr (by simp), (Below.refl _ _).alloc (Nat.le_refl _) _⟩
  case round =>
    obtain ⟨k, hk, rfl, HROW, hbel⟩ := hrel
    by_cases hlt : k < n
    · obtain ⟨b, off, rfl, hc, hd⟩ := HZ.out k (by rw [HE.out]; exact hlt)
      have hc' : wr.cell? ⟨b, off + k * 2, none⟩ = some (.int .i64 (p.A k)) := (hbel.cell (World.block_lt_of_cell? w _ hc)).trans hc
      have hd' : wr.cell? ⟨b, off + k * 2 + 1, none⟩ = some (.int .i64 (p.B k)) := (hbel.cell (World.block_lt_of_cell? w _ hd)).trans hd
      have hik := HN.out.2 k (by rw [HE.out]; exact hlt)
      have HIK : Hid (In (p.A k) 0 1000000 ∧ In (p.B k) 0 1000000) := hik
      clear hc hd hik
      have hb1 : Below w.heap.size w (wr.alloc (.cells #[.int .i64 (p.A k), .int .i64 (p.B k)] 91)) := push hbel _
      have b1 := heap_alloc_new wr (.cells #[.int .i64 (p.A k), .int .i64 (p.B k)] 91)
      have HR1 : Hid _ := row_below HROW.out (push (Below.refl _ _) (.cells #[.int .i64 (p.A k), .int .i64 (p.B k)] 91))
      go_upto_region 7 with fail
      generalize wr.alloc (.cells #[.int .i64 (p.A k), .int .i64 (p.B k)] 91) = W at hb1 b1 HR1 ⊢
      have y0 := blk_cell b1 0 _ rfl
      have y1 := blk_cell b1 1 _ rfl
      clear hc' hd' HROW
      go_wp2_with fail
      refine (cabinText_any (p.A k) (p.B k) _ HIK.out.1 HIK.out.2 (HP.out.below hb1)).mono ?_
      rintro e w2 ⟨rfl, hb2⟩
      have hrow2 := row_below HR1.out hb2
      have hbel2 := after hb1 hb2
      have ho := hrow2.cell (i := k) hlt
      have hf := hrow2.frozen k
      simp only [Nat.lt_irrefl, if_false] at ho
      have HR2 : Hid (w2.rowIs w.heap.size 9 n (fun j => if j < k then .string (pairT (p.A j) (p.B j)) else .string ⟨#[]⟩)) := hrow2
      clear HR1 hbel hb2 hb1 b1 y0 y1 hrow2
      go_wp2
      go_roundw
      case rel => exact ⟨k + 1, by omega, by go_num, (World.rowIs.set HR2.out k _).congr (fun j hj => fill_step (fun j => Value.string (pairT (p.A j) (p.B j))) _ k j), hbel2.setCell (Nat.le_refl _) _⟩
      case measure => simp [intOf]; omega
    · have hfull : wr.rowIs w.heap.size 9 n (fun j => .string (pairT (p.A j) (p.B j))) := HROW.out.congr (fun j hj => by rw [if_pos (by omega)])
      have HF : Hid (wr.rowIs w.heap.size 9 n (fun j => .string (pairT (p.A j) (p.B j)))) := hfull
      have hsz := pairs_joined HN.out
      rw [HE.out] at hsz
      have ER : Hid (joinT coT ((List.range n).map (fun i => pairT (p.A i) (p.B i))) = pairsT p) := by show _ = pairsT p; unfold pairsT; rw [HE.out, if_neg h0]
      clear HROW hfull
      go_wp2_with fail
      refine (join_row coT w.heap.size n (fun i => pairT (p.A i) (p.B i)) _ HF.out (by omega) (by omega) (by omega)).mono ?_
      rintro e w3 ⟨rfl, hb3⟩
      go_wp2
      go_ret
      exact ⟨congrArg (fun z => Ending.returned (Value.string z)) ER.out, after hbel hb3⟩

end Go.Proofs.YtfbooamjddnagaaDoor

/-
  OWN TEXT: PartI, WordI, CutI.
-/
import Derived.Shelf.Small.Utf8
import Derived.Shelf.Strconv.Clone
import Derived.Shelf.Strings.Search2
import Derived.Lib.IndexLaws
import Derived.Test.YtfbooamjddnagaaDoorXadOp00
import Derived.Test.YtfbooamjddnagaaDoorB22
namespace Go.Proofs
open Go.Shelf
shelf_lay Lays.n118 Nm 118 at Tryd as Tryd.lays118
end Go.Proofs

namespace Go.Proofs.YtfbooamjddnagaaDoor
open Go.RowKit

theorem parts_start (p : UInt8) : PartsL p [] [[]] := ⟨by simp, rfl, fun q hq => by simp at hq; rw [hq]; simp⟩
theorem parts_grow {p : UInt8} {x q t : List UInt8} {l : List (List UInt8)} (h : PartsL p x (l ++ [q])) (ht : p ∉ t) : PartsL p (x ++ t) (l ++ [q ++ t]) := by
  refine ⟨by simp, ?_, fun r hr => ?_⟩
  · rw [← h.2.1]
    by_cases c : l = []
    · subst c
      simp [Lib.join_one]
    · rw [join_snoc _ _ _ c, join_snoc _ _ _ c]
      simp
  · rcases List.mem_append.1 hr with hr | hr
    · exact h.2.2 r (by simp [hr])
    · simp at hr
      rw [hr]
      have := h.2.2 q (by simp)
      simp [this, ht]
theorem parts_sep {p : UInt8} {x q : List UInt8} {l : List (List UInt8)} (h : PartsL p x (l ++ [q])) : PartsL p (x ++ [p]) ((l ++ [q]) ++ [[]]) := by
  refine ⟨by simp, ?_, fun r hr => ?_⟩
  · rw [join_snoc _ _ _ (by simp), h.2.1]
    simp
  · rcases List.mem_append.1 hr with hr | hr
    · exact h.2.2 r hr
    · simp at hr
      rw [hr]
      simp
theorem sub_list (s : ByteArray) (a b : Nat) : (s.extract a b).data.toList = (s.data.toList.drop a).take (b - a) := by
  simp
/-- Where the cutting of a text stands: at pos, the part under way from st on, l behind it. -/
def CutAt (p : UInt8) (s : ByteArray) (pos st : Nat) (l : List ByteArray) : Prop := st ≤ pos ∧ pos ≤ s.size ∧ l.length ≤ pos ∧ PartsL p (s.data.toList.take pos) (l.map (·.data.toList) ++ [(s.data.toList.drop st).take (pos - st)])
theorem CutAt.start (p : UInt8) (s : ByteArray) : CutAt p s 0 0 [] := ⟨Nat.le_refl _, Nat.zero_le _, Nat.le_refl _, by simpa using parts_start p⟩
theorem CutAt.skip {p : UInt8} {s : ByteArray} {pos pos' st : Nat} {l : List ByteArray} (h : CutAt p s pos st l) (h1 : pos ≤ pos') (h2 : pos' ≤ s.size) (hn : ∀ j, pos ≤ j → j < pos' → ∀ hj : j < s.size, s[j]'hj ≠ p) : CutAt p s pos' st l := by
  obtain ⟨a, b, c, d⟩ := h
  refine ⟨by omega, h2, by omega, ?_⟩
  have hl : s.data.toList.length = s.size := Array.length_toList
  have e1 : s.data.toList.take pos' = s.data.toList.take pos ++ (s.data.toList.drop pos).take (pos' - pos) := by
    rw [show pos' = pos + (pos' - pos) by omega, List.take_add]
    simp
  have e2 : (s.data.toList.drop st).take (pos' - st) = (s.data.toList.drop st).take (pos - st) ++ (s.data.toList.drop pos).take (pos' - pos) := by
    rw [show pos' - st = (pos - st) + (pos' - pos) by omega, List.take_add, List.drop_drop, show st + (pos - st) = pos by omega]
  rw [e1, e2]
  refine parts_grow d ?_
  intro hm
  obtain ⟨i, hi⟩ := List.mem_iff_getElem?.1 hm
  rw [List.getElem?_take] at hi
  split at hi
  · rename_i hlt
    rw [List.getElem?_drop] at hi
    have hj : pos + i < s.size := by omega
    rw [get_at hj] at hi
    exact hn (pos + i) (by omega) (by omega) hj (by simpa using hi)
  · cases hi
theorem CutAt.sep {p : UInt8} {s : ByteArray} {pos st : Nat} {l : List ByteArray} (h : CutAt p s pos st l) (hp : pos < s.size) (he : s[pos]'hp = p) : CutAt p s (pos + 1) (pos + 1) (l ++ [s.extract st pos]) := by
  obtain ⟨a, b, c, d⟩ := h
  refine ⟨Nat.le_refl _, by omega, by rw [List.length_append, List.length_singleton]; omega, ?_⟩
  have := parts_sep d
  rw [List.map_append, List.map_cons, List.map_nil, sub_list, List.take_add_one, get_at hp, he]
  simpa using this
theorem CutAt.done {p : UInt8} {s : ByteArray} {st : Nat} {l : List ByteArray} (h : CutAt p s s.size st l) : Parts p s (l ++ [s.extract st s.size]) := by
  obtain ⟨a, b, c, d⟩ := h
  have hl : s.data.toList.length = s.size := Array.length_toList
  rw [← sub_list, List.take_of_length_le (by omega)] at d
  refine ⟨by simp, ?_, fun q hq => ?_⟩
  · apply data_inj
    unfold joinT oneT
    have := d.2.1
    simpa using this
  · refine d.2.2 _ ?_
    rcases List.mem_append.1 hq with hq | hq
    · exact List.mem_append.2 (.inl (List.mem_map.2 ⟨q, hq, rfl⟩))
    · simp at hq
      rw [hq]
      simp
theorem kept_iter (w : World) (k : Nat) (s : ByteArray) (pos : Nat) : Kept w (w.iterAt k s pos) (fun b => b = k) := ⟨rfl, rfl, rfl, by rw [Lib.iterAt_size]; exact Nat.le_refl _, fun i _ hn => Lib.iterAt_other w k i s pos hn⟩
theorem own_not_iter {w : World} {base e size n k pos : Nat} {v : Value} {xs : List Value} {s : ByteArray} (h : w.ownsRow base e size v n xs) (hk : w.heap[k]? = some (.stringIter s pos)) : ∀ g, v.ownBlock = some g → ¬ g = k := by
  rintro g hg rfl
  rcases h.2 with ⟨rfl, _⟩ | ⟨g', cap', cur, rfl, _, hg', _⟩
  · simp [Value.ownBlock] at hg
  · simp only [Value.ownBlock, Option.some.injEq] at hg
    subst hg
    rw [hg'] at hk
    cases hk

set_option maxHeartbeats 1600000 in
set_option maxRecDepth 100000 in
theorem partsIn_any (s : ByteArray) (p : UInt8) (w : World) (hp : p.toNat < 128) (hs : s.size ≤ 1048576) :
    Calls Tryd.prog 88 #[.string s, .int .i32 p.toNat] w fun e w' => ∃ v l, e = .returned v ∧ OwnT w' w.heap.size v l ∧ Hid (Parts p s l ∧ l.length ≤ s.size + 1) ∧ Below w.heap.size w w' := by
  obtain ⟨j0, ji, jz0, jz1, jz2⟩ := info_parts Tryd.infoText
  have hk0 : (w.iter s 0).heap[w.heap.size]? = some (.stringIter s 0) := World.iter_heap w s 0
  have hb0 : Below w.heap.size w (w.iter s 0) := push (Below.refl _ _) _
  have HRL : Hid (∀ W : World, Calls Tryd.prog 119 #[.int .i32 p.toNat] W fun e w' => e = .returned (.int .i64 1) ∧ w' = W) := fun W => by
    have h := Any.utf8_RuneLen Tryd.lays118 (p.toNat : Int) W
    rw [show Lib.runeLen (p.toNat : Int) = 1 from by unfold Lib.runeLen; rw [if_neg (by omega), if_pos (by omega)]] at h
    exact h
  go_enter Tryd.func88, Tryd.ntmps88
  go_wp2
  go_loopw [5, 6, 7, 8] (fun v vs _ _ wr => ∃ (pos st : Nat) (l : List ByteArray), vs = .int .i64 st ∧ wr.heap[w.heap.size]? = some (.stringIter s pos) ∧ Hid (CutAt p s pos st l) ∧ Hid (OwnT wr w.heap.size v l) ∧ Below w.heap.size w wr)
    (fun _ _ _ _ wr => s.size - wr.iterPos w.heap.size)
  case atStart => exact ⟨0, 0, [], rfl, hk0, CutAt.start p s, World.ownsRow_nil _ _ _ _, hb0⟩
  case round =>
    obtain ⟨pos, st, l, rfl, hk, HC, HO, hbel⟩ := hrel
    clear hk0 hb0
    have hmu : wr.iterPos w.heap.size = pos := by simp [World.iterPos, hk]
    obtain ⟨la, lc, rfl, _⟩ := own_form HO.out
    have hst := HC.out.1
    have hps := HC.out.2.1
    have hll := HC.out.2.2.1
    by_cases hlt : pos < s.size
    · by_cases h128 : (s[pos]'hlt).toNat < 128
      · have hnext : ∀ ty, (Instr.next (.pointer (some ⟨w.heap.size, 0, none⟩)) true ty).run Tryd.prog wr = _ := fun ty => Lib.run_next_ascii_at wr w.heap.size s pos ty hk hlt h128
        have hk1 := Lib.iterAt_heap wr w.heap.size s pos (pos + 1) hk
        have hb1 : Below w.heap.size w (wr.iterAt w.heap.size s (pos + 1)) := Lib.below_iterAt hbel (Nat.le_refl _) s (pos + 1)
        have HO1 : Hid (OwnT (wr.iterAt w.heap.size s (pos + 1)) w.heap.size (.slice la l.length lc) l) := (kept_iter wr w.heap.size s (pos + 1)).own HO.out (own_not_iter HO.out hk)
        generalize wr.iterAt w.heap.size s (pos + 1) = W1 at hnext hk1 hb1 HO1
        by_cases he : s[pos]'hlt = p
        · have HC1 : Hid (CutAt p s (pos + 1) (pos + 1) (l ++ [s.extract st pos])) := HC.out.sep hlt he
          rw [he] at hnext
          have ep : ((p.toNat : Int) == (p.toNat : Int)) = true := by simp
          have hw1 : IntKind.i64.wrap ((pos : Int) + 1) = ((pos + 1 : Nat) : Int) := by rw [IntKind.wrap_i64]; omega
          have i1 : (0 : Int) ≤ (st : Int) := by omega
          have i2 : (st : Int) ≤ (pos : Int) := by omega
          have i3 : (pos : Int) ≤ (s.size : Int) := by omega
          have HO2 : Hid (OwnT (W1.alloc (.cells #[.string (s.extract st pos)] 9)) w.heap.size (.slice la l.length lc) l) := own_below (push (Below.refl _ _) _) HO1.out
          have hb2 : Below w.heap.size w (W1.alloc (.cells #[.string (s.extract st pos)] 9)) := push hb1 _
          have hk2 := blk_alloc hk1 (.cells #[.string (s.extract st pos)] 9)
          have hsz := hb2.size
          clear hk hbel HO he
          go_wp2_with (first | (go_at_call 119; (with_reducible refine Calls.mono (HRL.out _) ?_); rintro e w3 ⟨rfl, hw3⟩; have hw3 := hw3.symm; subst hw3) | (at_builtin; refine wpList_append_any _ (by rfl) (.tmp 18) (.tmp 23) 64 (by rfl) w.heap.size 9 j0 (.string ⟨#[]⟩) 1 16 Tryd.underlying64 ji jz0 jz1 jz2 rfl (by decide) _ l.length (l.map Value.string) (by rfl) HO2.out (some ⟨W1.heap.size, 0, none⟩) 1 1 [.string (s.extract st pos)] (by rfl) (fun h => by cases h) (by rfl) (fun ad h => by cases h; exact World.news_of_block (heap_alloc_new W1 _)) (by intro u hu; simp only [List.mem_cons, List.not_mem_nil, or_false] at hu; subst hu; rfl) (by unfold maxLen; omega) (by omega) hsz ?_; intro v9 w9 ho9 hg9; have hk9 := (kept_row hg9).blk hk2 (fun e => own_not_iter HO2.out hk2 _ e rfl); have hb9 := hb2.grown hg9 hsz (fun j hj => (World.ownsRow.lt HO2.out j hj).1); have HO9 : Hid (OwnT w9 w.heap.size v9 (l ++ [s.extract st pos])) := (by unfold OwnT; rw [List.length_append, List.map_append]; exact ho9); clear ho9 hg9))
          go_roundw
          case rel => exact ⟨pos + 1, pos + 1, _, by go_num, hk9, HC1, HO9, hb9⟩
          case measure =>
            have hmu2 : w9.iterPos w.heap.size = pos + 1 := by simp [World.iterPos, hk9]
            rw [hmu, hmu2]
            omega
        · have HC1 : Hid (CutAt p s (pos + 1) st l) := HC.out.skip (by omega) (by omega) (fun j h1 h2 hj => by
            obtain rfl : pos = j := by omega
            exact he)
          have hne : (s[pos]'hlt).toNat ≠ p.toNat := fun e => he (UInt8.toNat_inj.1 e)
          have hne' : (((s[pos]'hlt).toNat : Int) == (p.toNat : Int)) = false := by rw [beq_eq_false_iff_ne]; omega
          clear hk hbel HO he
          go_wp2
          go_roundw
          case rel => exact ⟨pos + 1, st, l, rfl, hk1, HC1, HO1, hb1⟩
          case measure =>
            have hmu2 : W1.iterPos w.heap.size = pos + 1 := by simp [World.iterPos, hk1]
            rw [hmu, hmu2]
            omega
      · have hsk := decode_skip s pos hlt (by omega)
        have hhi := decode_high s pos hlt (by omega)
        have hnext : ∀ ty, (Instr.next (.pointer (some ⟨w.heap.size, 0, none⟩)) true ty).run Tryd.prog wr = _ := fun ty => Lib.run_next_any_at wr w.heap.size s pos ty hk hlt
        generalize (Utf8.decode s pos).2 = d at hsk hhi hnext
        have hk1 := Lib.iterAt_heap wr w.heap.size s pos (pos + d) hk
        have hb1 : Below w.heap.size w (wr.iterAt w.heap.size s (pos + d)) := Lib.below_iterAt hbel (Nat.le_refl _) s (pos + d)
        have HO1 : Hid (OwnT (wr.iterAt w.heap.size s (pos + d)) w.heap.size (.slice la l.length lc) l) := (kept_iter wr w.heap.size s (pos + d)).own HO.out (own_not_iter HO.out hk)
        generalize wr.iterAt w.heap.size s (pos + d) = W1 at hnext hk1 hb1 HO1
        have HC1 : Hid (CutAt p s (pos + d) st l) := HC.out.skip (by omega) hsk.1 (fun j h1 h2 hj e => by
          have := hsk.2 j h1 h2 hj
          rw [e] at this
          omega)
        generalize (Utf8.decode s pos).1 = c at hhi hnext
        have hne' : ((c : Int) == (p.toNat : Int)) = false := by rw [beq_eq_false_iff_ne]; omega
        have hne : c ≠ p.toNat := by omega
        clear hk hbel HO
        go_wp2
        go_roundw
        case rel => exact ⟨pos + d, st, l, rfl, hk1, HC1, HO1, hb1⟩
        case measure =>
          have hmu2 : W1.iterPos w.heap.size = pos + d := by simp [World.iterPos, hk1]
          rw [hmu, hmu2]
          omega
    · obtain rfl : pos = s.size := by omega
      have hnext : ∀ ty, (Instr.next (.pointer (some ⟨w.heap.size, 0, none⟩)) true ty).run Tryd.prog wr = _ := fun ty => Lib.run_next_end_at wr w.heap.size s s.size ty hk hlt
      have HPS : Hid (Parts p s (l ++ [s.extract st s.size]) ∧ (l ++ [s.extract st s.size]).length ≤ s.size + 1) := ⟨HC.out.done, by rw [List.length_append, List.length_singleton]; omega⟩
      have HO2 : Hid (OwnT (wr.alloc (.cells #[.string (s.extract st s.size)] 9)) w.heap.size (.slice la l.length lc) l) := own_below (push (Below.refl _ _) _) HO.out
      have hb2 : Below w.heap.size w (wr.alloc (.cells #[.string (s.extract st s.size)] 9)) := push hbel _
      have hsz := hb2.size
      have i1 : (0 : Int) ≤ (st : Int) := by omega
      have i2 : (st : Int) ≤ (s.size : Int) := by omega
      clear hk HO hmu
      go_wp2_with (first | (at_builtin; refine wpList_append_any _ (by rfl) (.tmp 29) (.tmp 33) 64 (by rfl) w.heap.size 9 j0 (.string ⟨#[]⟩) 1 16 Tryd.underlying64 ji jz0 jz1 jz2 rfl (by decide) _ l.length (l.map Value.string) (by rfl) HO2.out (some ⟨wr.heap.size, 0, none⟩) 1 1 [.string (s.extract st s.size)] (by rfl) (fun h => by cases h) (by rfl) (fun ad h => by cases h; exact World.news_of_block (heap_alloc_new wr _)) (by intro u hu; simp only [List.mem_cons, List.not_mem_nil, or_false] at hu; subst hu; rfl) (by unfold maxLen; omega) (by omega) hsz ?_; intro v9 w9 ho9 hg9; have hb9 := hb2.grown hg9 hsz (fun j hj => (World.ownsRow.lt HO2.out j hj).1); have HO9 : Hid (OwnT w9 w.heap.size v9 (l ++ [s.extract st s.size])) := (by unfold OwnT; rw [List.length_append, List.map_append]; exact ho9); clear ho9 hg9))
      go_ret
      exact ⟨_, _, rfl, HO9.out, HPS.out, hb9⟩

end Go.Proofs.YtfbooamjddnagaaDoor

namespace Go.Proofs
open Go.Shelf
shelf_lay LaysM.n316 Nm 316 at Tryd as Tryd.lays316
end Go.Proofs

namespace Go.Proofs.YtfbooamjddnagaaDoor
open Go.RowKit

/-- The box b has the words l. -/
def WSt (w : World) (b : Nat) (l : List ByteArray) : Prop :=
  ∃ (ao : Option Addr) (c : Nat), w.heap[b]? = some (.cells #[.slice ao l.length c] 119 (0, 0)) ∧ l.length ≤ c ∧ c ≤ maxLen ∧
    ∀ j x, l[j]? = some x → ∃ g off cur, ao = some ⟨g, off, none⟩ ∧ w.cell? ⟨g, off + j, none⟩ = some (.string x) ∧ w.heap[g]? = some (.cells cur 9 (0, 0))
theorem WSt.kept {w w' : World} {b : Nat} {l : List ByteArray} {S : Nat → Prop} (h : WSt w b l) (hk : Kept w w' S) (hb : ¬ S b) (hS : ∀ g cur, w.heap[g]? = some (.cells cur 9 (0, 0)) → ¬ S g) : WSt w' b l := by
  obtain ⟨ao, c, h1, h2, h3, h4⟩ := h
  refine ⟨ao, c, hk.blk h1 hb, h2, h3, fun j x hx => ?_⟩
  obtain ⟨g, off, cur, e, k1, k2⟩ := h4 j x hx
  refine ⟨g, off, cur, e, ?_, hk.blk k2 (hS g cur k2)⟩
  rw [← k1]
  exact World.cell?_of_block ((hk.blk k2 (hS g cur k2)).trans k2.symm)
theorem WSt.below {w w' : World} {b : Nat} {l : List ByteArray} (h : WSt w b l) (hb : Below w.heap.size w w') : WSt w' b l := h.kept (Kept.of_below (S := fun _ => False) hb) (fun h => h) (fun _ _ _ h => h)

theorem pow_kept {w w' : World} {S : Nat → Prop} (h : PowAt w) (hk : Kept w w' S) (hg : ¬ S 4) : PowAt w' := by
  unfold PowAt Lib.TabIs World.var? at *
  rw [Tryd.gPow] at h ⊢
  simp only [Option.bind_some] at h ⊢
  have hlt : 4 < w.heap.size := by
    rcases Nat.lt_or_ge 4 w.heap.size with h' | h'
    · exact h'
    · rw [Array.getElem?_eq_none h'] at h; simp at h
  rw [hk.block _ hlt hg]
  exact h
theorem wordsIn_any (s : ByteArray) (w : World) (hs : s.size ≤ 1048576) :
    Calls Tryd.prog 45 #[.string s] w fun e w' => ∃ b l, e = .returned (.pointer (some ⟨b, 0, none⟩)) ∧ w.heap.size ≤ b ∧ Hid (WSt w' b l ∧ Parts 32 s l ∧ l.length ≤ s.size + 1) ∧ Below w.heap.size w w' := by
  go_enter Tryd.func45, Tryd.ntmps45
  go_wp2_with fail
  refine (partsIn_any s 32 _ (by decide) hs).mono ?_
  rintro e w2 ⟨v, l, rfl, ho, hp, hb⟩
  obtain ⟨ao, c, rfl, hc, hm, hn⟩ := own_form ho
  have hW : WSt (w2.alloc (.cells #[.slice ao l.length c] 119)) w2.heap.size l := by
    refine ⟨ao, c, heap_alloc_new w2 _, hc, hm, fun j x hx => ?_⟩
    have hj : j < l.length := by
      rcases Nat.lt_or_ge j l.length with h | h
      · exact h
      · rw [List.getElem?_eq_none h] at hx; cases hx
    obtain ⟨g, rfl, _, hg⟩ := own_addr ho (by omega)
    have hcell : w2.cell? ⟨g, j, none⟩ = some (.string x) := by rw [World.ownsRow.cellAt ho j (by omega), List.getElem?_map, hx]; rfl
    rcases ho.2 with ⟨h0, _⟩ | ⟨g', cap', cur, hv, _, hg', _⟩
    · cases h0
    · simp only [Value.slice.injEq, Option.some.injEq, Addr.mk.injEq] at hv
      obtain ⟨⟨rfl, _, _⟩, _, rfl⟩ := hv
      exact ⟨g, 0, cur, rfl, by rw [Nat.zero_add]; exact ((push (Below.refl _ w2) _).cell hg).trans hcell, blk_alloc hg' _⟩
  have HW : Hid (WSt (w2.alloc (.cells #[.slice ao l.length c] 119)) w2.heap.size l ∧ Parts 32 s l ∧ l.length ≤ s.size + 1) := ⟨hW, hp.out⟩
  have hb2 : Below w.heap.size w (w2.alloc (.cells #[.slice ao l.length c] 119)) := push hb _
  have hsz := hb.size
  clear hW hp ho
  go_wp2
  go_ret
  exact ⟨_, l, rfl, hsz, HW, hb2⟩

set_option maxHeartbeats 800000 in
theorem next_any (b : Nat) (l : List ByteArray) (w : World) (h : WSt w b l) :
    Calls Tryd.prog 82 #[.pointer (some ⟨b, 0, none⟩)] w fun e w' => e = .returned (.string (l.headD ⟨#[]⟩)) ∧ Hid (WSt w' b l.tail) ∧ Kept w w' (fun k => k = b) := by
  cases l with
  | nil =>
    have HW : Hid (WSt w b []) := h
    obtain ⟨ao, c, h1, _⟩ := h
    have y0 := blk_cell h1 0 _ rfl
    simp only [List.length_nil] at y0
    go_enter Tryd.func82, Tryd.ntmps82
    go_wp2
    go_ret
    exact ⟨rfl, HW, Kept.refl _ _⟩
  | cons x r =>
    have HW : Hid (WSt w b (x :: r)) := h
    obtain ⟨ao, c, h1, h2, h3, h4⟩ := h
    obtain ⟨g, off, cur, rfl, k1, k2⟩ := h4 0 x rfl
    have y0 := blk_cell h1 0 _ rfl
    have f0 := blk_free h1 0
    rw [List.length_cons] at y0 h2
    rw [Nat.add_zero] at k1
    have hne : g ≠ b := fun e => by
      rw [e, h1] at k2
      simp only [Option.some.injEq, Obj.cells.injEq] at k2
      exact absurd k2.2.1 (by decide)
    have H4 : Hid (∀ j y, (x :: r)[j]? = some y → ∃ g' off' cur, (some ⟨g, off, none⟩ : Option Addr) = some ⟨g', off', none⟩ ∧ w.cell? ⟨g', off' + j, none⟩ = some (.string y) ∧ w.heap[g']? = some (.cells cur 9 (0, 0))) := h4
    have H1 : Hid (w.heap[b]? = some (.cells #[.slice (some ⟨g, off, none⟩) (x :: r).length c] 119 (0, 0))) := h1
    have d0 : (((r.length + 1 : Nat) : Int) == 0) = false := by rw [beq_eq_false_iff_ne]; omega
    have d1 : (((r.length : Int) + 1) == 0) = false := by rw [beq_eq_false_iff_ne]; omega
    have i1 : (1 : Int) ≤ (r.length : Int) + 1 := by omega
    clear h4 h1 h3
    have key : ∀ (ad : Option Addr) (c' : Nat), c' = c - 1 → (0 < r.length → ad = some ⟨g, off + 1, none⟩) → WSt (w.setCell ⟨b, 0, none⟩ (.slice ad r.length c')) b r := fun ad c' hc' had => by
      refine ⟨ad, c', blk_set H1.out 0 _, by omega, by have := HW.out; obtain ⟨_, c2, q1, _, q3, _⟩ := this; rw [H1.out] at q1; simp at q1; omega, fun j y hy => ?_⟩
      have hj : j < r.length := by
        rcases Nat.lt_or_ge j r.length with h | h
        · exact h
        · rw [List.getElem?_eq_none h] at hy; cases hy
      obtain ⟨g', off', cur', e, q1, q2⟩ := H4.out (j + 1) y (by simpa using hy)
      simp only [Option.some.injEq, Addr.mk.injEq, and_true] at e
      obtain ⟨rfl, rfl⟩ := e
      refine ⟨g, off + 1, cur', had (by omega), ?_, blk_set_other q2 0 _ hne⟩
      rw [show off + 1 + j = off + (j + 1) by omega, ← q1]
      exact World.cell?_of_block ((blk_set_other q2 0 _ hne).trans q2.symm)
    have HKEY : Hid (∀ (ad : Option Addr) (c' : Nat), c' = c - 1 → (0 < r.length → ad = some ⟨g, off + 1, none⟩) → WSt (w.setCell ⟨b, 0, none⟩ (.slice ad r.length c')) b r) := key
    clear key
    by_cases hc : c = 1
    · subst hc
      have hr0 : r.length = 0 := by omega
      go_enter Tryd.func82, Tryd.ntmps82
      go_wp2
      go_ret
      refine ⟨rfl, ?_, (Kept.refl w (fun k => k = b)).set (a := ⟨b, 0, none⟩) rfl _⟩
      show WSt _ b r
      have hk9 := HKEY.out (some ⟨g, off, none⟩) 0 rfl (fun h => by omega)
      rw [hr0] at hk9
      first | exact hk9 | (simpa [hr0] using hk9)
    · have hc1 : (c = 1) = False := eq_false hc
      go_enter Tryd.func82, Tryd.ntmps82
      go_wp2
      go_ret
      refine ⟨rfl, ?_, (Kept.refl w (fun k => k = b)).set (a := ⟨b, 0, none⟩) rfl _⟩
      show WSt _ b r
      exact HKEY.out _ _ (by first | rfl | omega) (fun h => by first | rfl | simp)

set_option maxRecDepth 100000 in
theorem name_any (b : Nat) (l : List ByteArray) (w : World) (h : WSt w b l) (hl : (l.headD ⟨#[]⟩).size ≤ 281474976710656) :
    Calls Tryd.prog 84 #[.pointer (some ⟨b, 0, none⟩)] w fun e w' => e = .returned (.string (l.headD ⟨#[]⟩)) ∧ Hid (WSt w' b l.tail) ∧ Kept w w' (fun k => k = b) := by
  generalize hx : l.headD ⟨#[]⟩ = x at hl ⊢
  have hc : ∀ W : World, Calls Tryd.prog 116 #[.string x] W fun e w' => e = .returned (.string x) ∧ Below W.heap.size W w' := fun W => by
    go_enter Tryd.func116, Tryd.ntmps116
    go_wp2_with fail
    refine (Any.stringslite_Clone Tryd.lays316 x _ hl).mono ?_
    rintro e w2 ⟨rfl, hb⟩
    go_wp2
    go_ret
    exact ⟨rfl, hb⟩
  have HC : Hid (∀ W : World, Calls Tryd.prog 116 #[.string x] W fun e w' => e = .returned (.string x) ∧ Below W.heap.size W w') := hc
  have cn := next_any b l w h
  rw [hx] at cn
  clear hc hx h
  go_enter Tryd.func84, Tryd.ntmps84
  go_wp2_with fail
  refine cn.mono ?_
  clear cn
  rintro e w2 ⟨rfl, HW, hk⟩
  go_wp2_with fail
  refine (HC.out _).mono ?_
  rintro e w3 ⟨rfl, hb⟩
  have HW3 : Hid (WSt w3 b l.tail) := HW.out.below hb
  clear HW
  go_wp2
  go_ret
  exact ⟨rfl, HW3, hk.trans (Kept.of_below hb)⟩

set_option maxRecDepth 100000 in
theorem number_any (b : Nat) (l : List ByteArray) (w : World) (h : WSt w b l) (hP : PowAt w) (hg : 4 ≠ b) :
    Calls Tryd.prog 83 #[.pointer (some ⟨b, 0, none⟩)] w fun e w' => e = .returned (.int .i64 (numOf (l.headD ⟨#[]⟩))) ∧ Hid (WSt w' b l.tail) ∧ Kept w w' (fun k => k = b) := by
  generalize hx : l.headD ⟨#[]⟩ = x
  have HP : Hid (PowAt w) := hP
  have cn := next_any b l w h
  rw [hx] at cn
  clear h hP hx
  go_enter Tryd.func83, Tryd.ntmps83
  go_wp2_with fail
  refine cn.mono ?_
  clear cn
  rintro e w2 ⟨rfl, HW, hk⟩
  have hP2 : PowAt w2 := pow_kept (S := fun k => k = b) HP.out hk hg
  have HP2 : Hid (PowAt w2) := hP2
  clear hP2
  go_wp2_with fail
  refine (numberIn_any x _ HP2.out).mono ?_
  rintro e w3 ⟨rfl, hb⟩
  have HW3 : Hid (WSt w3 b l.tail) := HW.out.below hb
  clear HW
  go_wp2
  go_ret
  exact ⟨rfl, HW3, hk.trans (Kept.of_below hb)⟩

end Go.Proofs.YtfbooamjddnagaaDoor

namespace Go.Proofs
open Go.Shelf
shelf_lay Lays.n219 Nm 219 at Tryd as Tryd.lays219
end Go.Proofs

namespace Go.Proofs.YtfbooamjddnagaaDoor
open Go.RowKit

def cutF (p : UInt8) (s : ByteArray) : Bool := decide (0 ≤ Lib.indexByte s.data.toList p)
def cutA (p : UInt8) (s : ByteArray) : ByteArray := if cutF p s = true then s.extract 0 (Lib.indexByte s.data.toList p).toNat else s
def cutB (p : UInt8) (s : ByteArray) : ByteArray := if cutF p s = true then s.extract ((Lib.indexByte s.data.toList p).toNat + 1) s.size else ⟨#[]⟩
theorem index_at {p : UInt8} {s : ByteArray} {o : Nat} (h : Lib.indexByte s.data.toList p = o) : o < s.size := by
  have h1 := (Lib.indexByte_some h).1
  rcases Nat.lt_or_ge o s.data.toList.length with h2 | h2
  · rwa [Array.length_toList] at h2
  · rw [List.getElem?_eq_none h2] at h1; cases h1
theorem cut_is (p : UInt8) (s : ByteArray) : CutIs p s (cutA p s) (cutB p s) (cutF p s) := by
  have hl : s.data.toList.length = s.size := Array.length_toList
  by_cases h : 0 ≤ Lib.indexByte s.data.toList p
  · obtain ⟨o, ho⟩ := Int.eq_ofNat_of_zero_le h
    have hF : cutF p s = true := decide_eq_true h
    have hlt := index_at ho
    obtain ⟨h1, h2⟩ := Lib.indexByte_some ho
    unfold CutIs cutA cutB
    rw [if_pos hF, if_pos hF, ho, Int.toNat_natCast, sub_list, sub_list]
    refine ⟨?_, .inl ⟨hF, ?_⟩⟩
    · intro hm
      obtain ⟨i, hi⟩ := List.mem_iff_getElem?.1 hm
      rw [List.getElem?_take] at hi
      split at hi
      · rename_i hlt2
        simp at hi hlt2
        exact h2 i hlt2 (by simpa using hi)
      · cases hi
    · rw [Nat.sub_zero, List.drop_zero, List.take_of_length_le (l := List.drop (o + 1) s.data.toList) (by rw [List.length_drop]; omega)]
      have h3 : s.data.toList.drop o = p :: s.data.toList.drop (o + 1) := by
        rw [List.drop_eq_getElem_cons (by omega)]
        rw [List.getElem?_eq_getElem (by omega)] at h1
        congr 1
        simpa using h1
      rw [← h3, List.take_append_drop]
  · have hF : cutF p s = false := decide_eq_false h
    have hn : Lib.indexByte s.data.toList p = -1 := by have := Lib.indexByte_ge s.data.toList p; omega
    unfold CutIs cutA cutB
    rw [if_neg (by rw [hF]; decide), if_neg (by rw [hF]; decide)]
    refine ⟨fun hm => ?_, .inr ⟨hF, rfl, rfl⟩⟩
    obtain ⟨i, hi⟩ := List.mem_iff_getElem?.1 hm
    exact Lib.indexByte_none hn i hi
theorem cut_size (p : UInt8) (s : ByteArray) : (cutA p s).size ≤ s.size ∧ (cutB p s).size ≤ s.size := by
  unfold cutA cutB
  constructor
  · split
    · rw [ByteArray.size_extract]; omega
    · exact Nat.le_refl _
  · split
    · rw [ByteArray.size_extract]; omega
    · exact Nat.zero_le _

set_option maxHeartbeats 800000 in
set_option maxRecDepth 100000 in
theorem liteCut_any (s : ByteArray) (p : UInt8) (w : World) (hs : s.size ≤ 1000000000000) :
    Calls Tryd.prog 126 #[.string s, .string ⟨#[p]⟩] w fun e w' => e = .returned (.tuple #[.string (cutA p s), .string (cutB p s), .bool (cutF p s)]) ∧ Below w.heap.size w w' := by
  have hge := Lib.indexByte_ge s.data.toList p
  have h1 : (⟨#[p]⟩ : ByteArray).size = 1 := rfl
  by_cases h : 0 ≤ Lib.indexByte s.data.toList p
  · obtain ⟨o, ho⟩ := Int.eq_ofNat_of_zero_le h
    have hF : cutF p s = true := decide_eq_true h
    have hlt := index_at ho
    have HE : Hid (cutA p s = s.extract 0 o ∧ cutB p s = s.extract (o + 1) s.size ∧ cutF p s = true) := by
      refine ⟨?_, ?_, hF⟩
      · unfold cutA; rw [if_pos hF, ho, Int.toNat_natCast]
      · unfold cutB; rw [if_pos hF, ho, Int.toNat_natCast]
    have ci := Any.stringslite_Index_one Tryd.lays219 s p w
    rw [ho] at ci
    have i1 : (0 : Int) ≤ (o : Int) := by omega
    have i2 : (o : Int) ≤ (s.size : Int) := by omega
    have i3 : (o : Int) + 1 ≤ (s.size : Int) := by omega
    have i4 : (0 : Int) ≤ (o : Int) + 1 := by omega
    have hw : IntKind.i64.wrap ((o : Int) + 1) = (o : Int) + 1 := by rw [IntKind.wrap_i64]; omega
    have ht : ((o : Int) + 1).toNat = o + 1 := by omega
    have dg : decide ((0 : Int) ≤ (o : Int)) = true := decide_eq_true i1
    clear h hF ho hge
    go_enter Tryd.func126, Tryd.ntmps126
    go_wp2_with fail
    refine ci.mono ?_
    clear ci
    rintro e w2 ⟨rfl, hw2⟩
    have hw2 := hw2.symm
    subst hw2
    go_upto_region 3 with fail
    go_quiet (fail)
    go_wp2
    exact bodyPost_ret (v := .tuple #[.string (s.extract 0 o), .string (s.extract (o + 1) s.size), .bool true]) (by simp [results, Tryd.results126, go_sem]) rfl ⟨by rw [HE.out.1, HE.out.2.1, HE.out.2.2], below_drewN (Below.refl _ _) _⟩
  · have hn : Lib.indexByte s.data.toList p = -1 := by omega
    have hF : cutF p s = false := decide_eq_false h
    have HE : Hid (cutA p s = s ∧ cutB p s = ⟨#[]⟩ ∧ cutF p s = false) := by
      refine ⟨?_, ?_, hF⟩
      · unfold cutA; rw [if_neg (by rw [hF]; decide)]
      · unfold cutB; rw [if_neg (by rw [hF]; decide)]
    have ci := Any.stringslite_Index_one Tryd.lays219 s p w
    rw [hn] at ci
    clear h hF hn hge
    go_enter Tryd.func126, Tryd.ntmps126
    go_wp2_with fail
    refine ci.mono ?_
    clear ci
    rintro e w2 ⟨rfl, hw2⟩
    have hw2 := hw2.symm
    subst hw2
    go_wp2
    exact bodyPost_ret (v := .tuple #[.string s, .string ⟨#[]⟩, .bool false]) (by simp [results, Tryd.results126, go_sem]) rfl ⟨by rw [HE.out.1, HE.out.2.1, HE.out.2.2], Below.refl _ _⟩

theorem cut_any (s : ByteArray) (p : UInt8) (w : World) (hs : s.size ≤ 1000000000000) :
    Calls Tryd.prog 117 #[.string s, .string ⟨#[p]⟩] w fun e w' => e = .returned (.tuple #[.string (cutA p s), .string (cutB p s), .bool (cutF p s)]) ∧ Below w.heap.size w w' := by
  have ci := liteCut_any s p w hs
  generalize cutA p s = a at ci ⊢
  generalize cutB p s = b at ci ⊢
  generalize cutF p s = f at ci ⊢
  go_enter Tryd.func117, Tryd.ntmps117
  go_wp2_with fail
  refine ci.mono ?_
  rintro e w2 ⟨rfl, hb⟩
  go_wp2
  exact bodyPost_ret (v := .tuple #[.string a, .string b, .bool f]) (by simp [results, Tryd.results117, go_sem]) rfl ⟨rfl, hb⟩

set_option maxHeartbeats 800000 in
theorem pairIn_any (s : ByteArray) (w : World) (hs : s.size ≤ 1000000000000) (hP : PowAt w) :
    Calls Tryd.prog 118 #[.string s] w fun e w' => e = .returned (.tuple #[.int .i64 (numOf (cutA 47 s)), .int .i64 (numOf (cutB 47 s))]) ∧ Below w.heap.size w w' := by
  have HP : Hid (PowAt w) := hP
  have ci := cut_any s 47 w hs
  clear hP
  generalize cutA 47 s = a at ci ⊢
  generalize cutB 47 s = b at ci ⊢
  go_enter Tryd.func118, Tryd.ntmps118
  go_wp2_with fail
  refine ci.mono ?_
  clear ci
  rintro e w2 ⟨rfl, hb⟩
  go_wp2_with fail
  refine (numberIn_any a _ (HP.out.below hb)).mono ?_
  rintro e w3 ⟨rfl, hb3⟩
  have hb3 := after hb hb3
  go_wp2_with fail
  refine (numberIn_any b _ (HP.out.below hb3)).mono ?_
  rintro e w4 ⟨rfl, hb4⟩
  go_wp2
  exact bodyPost_ret (v := .tuple #[.int .i64 (numOf a), .int .i64 (numOf b)]) (by simp [results, Tryd.results118, go_sem]) rfl ⟨rfl, after hb3 hb4⟩

end Go.Proofs.YtfbooamjddnagaaDoor

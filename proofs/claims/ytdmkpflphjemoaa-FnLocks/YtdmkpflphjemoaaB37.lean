/-
  OWN TEXT: PlainC, KitMap.
-/
import Derived.Maps.OwnSet
import Derived.Maps.OwnOps
import Derived.Test.YtdmkpflphjemoaaB36
namespace Go.Proofs.Ytdmkpflphjemoaa

theorem first_exists {l : Line} {x : Int} : ∀ a, a < l.n → l.T a = x → ∃ k, k ≤ a ∧ firstAt l x k := by
  intro a
  induction a using Nat.strongRecOn with
  | _ a ih =>
    intro ha e
    by_cases h : ∃ j, j < a ∧ l.T j = x
    · obtain ⟨j, hj, e'⟩ := h
      obtain ⟨k, hk, hf⟩ := ih j hj (by omega) e'
      exact ⟨k, by omega, hf⟩
    · exact ⟨a, Nat.le_refl _, ha, e, fun j hj e' => h ⟨j, hj, e'⟩⟩

open Classical in
/-- How far behind a task waits: the higher its lock and the nearer its place, the less; 0 where it does not. -/
noncomputable def rank (N : Nat) (Q : Nat → Line) (x : Int) : Nat :=
  if h : ∃ p : Nat × Nat, waitsIn N Q x p.1 ∧ firstAt (Q p.1) x p.2 then (N - (Classical.choose h).1) * 1048577 + (Classical.choose h).2 + 1 else 0
theorem rank_at {N : Nat} {Q : Nat → Line} {x : Int} {i j : Nat} (hi : waitsIn N Q x i) (hj : firstAt (Q i) x j) : rank N Q x = (N - i) * 1048577 + j + 1 := by
  have h : ∃ p : Nat × Nat, waitsIn N Q x p.1 ∧ firstAt (Q p.1) x p.2 := ⟨(i, j), hi, hj⟩
  unfold rank
  rw [dif_pos h]
  have hc := Classical.choose_spec h
  have e1 := waitsIn_one hc.1 hi
  have e2 := hc.2
  rw [e1] at e2
  rw [e1, firstAt_one e2 hj]
theorem rank_none {N : Nat} {Q : Nat → Line} {x : Int} (h : ∀ i, ¬ waitsIn N Q x i) : rank N Q x = 0 := by
  unfold rank
  rw [dif_neg (fun ⟨p, hp, _⟩ => h p.1 hp)]
theorem rank_less {N : Nat} {K : Nat → Int} {H Q : Nat → Line} (hg : GoodI N K H Q) (hs : ShortTo N H Q 1048576) {x : Int} {ks : List Int} (hf : ForIs N H Q x ks) {y : Int} (hy : y ∈ ks) : rank N Q y < rank N Q x := by
  rcases hf with ⟨_, rfl⟩ | ⟨i, j, hi, hj, _, hm⟩
  · cases hy
  · rw [rank_at hi hj]
    obtain ⟨t, ht, e⟩ := seqTo_mem ((hm y).1 hy)
    by_cases hlo : t < (H i).n
    · rw [(cat_lo (q := Q i) (j := j) hlo).1] at e
      by_cases hw : ∃ i', waitsIn N Q y i'
      · obtain ⟨i', hi'⟩ := hw
        obtain ⟨a, ha, ea⟩ := hi'.2.1
        obtain ⟨j', hj', hf'⟩ := first_exists a ha ea
        rw [rank_at hi' hf']
        have hgl := (goodL_iff N K H Q).2 hg
        have hq := ((hgl.2 i' hi'.1).2.2.2.1 j' hf'.1).2.2.2
        rw [hf'.2.1] at hq
        have hlt : i < i' := by
          apply Nat.lt_of_not_le
          intro hle
          exact hq i hle hi.1 ⟨t, hlo, e⟩
        have h1 := (hs i' hi'.1).2
        have h2 := hf'.1
        have h3 := hi'.1
        omega
      · rw [rank_none (fun i' h => hw ⟨i', h⟩)]; omega
    · obtain ⟨a, rfl⟩ : ∃ a, t = (H i).n + a := ⟨t - (H i).n, by omega⟩
      rw [(cat_hi (h := H i) (q := Q i) (j := j)).1] at e
      have haj : a < j := by omega
      have hjn := hj.1
      obtain ⟨j', hj', hf'⟩ := first_exists a (by omega) e
      have hwi : waitsIn N Q y i := ⟨hi.1, ⟨a, by omega, e⟩, fun i'' hi'' hin => by
        have := (hg.2.2 i hi.1).2 a (by omega)
        rw [e] at this
        exact this (List.mem_append.2 (.inl ((mem_waited Q i y).2 ⟨i'', hi'', hin⟩)))⟩
      rw [rank_at hwi hf']
      omega
theorem for_task {N : Nat} {K : Nat → Int} {H Q : Nat → Line} (hg : GoodI N K H Q) {x : Int} {ks : List Int} (hf : ForIs N H Q x ks) {y : Int} (hy : y ∈ ks) : isTask y := by
  rcases hf with ⟨_, rfl⟩ | ⟨i, j, hi, hj, _, hm⟩
  · cases hy
  · obtain ⟨t, ht, e⟩ := seqTo_mem ((hm y).1 hy)
    rw [← e]; exact cat_tasks hg hi.1 (Nat.le_of_lt hj.1) t ht
theorem for_nodup {N : Nat} {H Q : Nat → Line} {x : Int} {ks : List Int} (hf : ForIs N H Q x ks) : ks.Nodup := by
  rcases hf with ⟨_, rfl⟩ | ⟨_, _, _, _, hs, _⟩
  · exact List.nodup_nil
  · exact strict_nodup hs

/-- What a stack of tasks weighs: one outweighs twelve of lower rank. -/
noncomputable def weigh (N : Nat) (Q : Nat → Line) : List Int → Nat
  | [] => 0
  | x :: l => 13 ^ rank N Q x + weigh N Q l
theorem weigh_append (N : Nat) (Q : Nat → Line) (a b : List Int) : weigh N Q (a ++ b) = weigh N Q a + weigh N Q b := by
  induction a with
  | nil => simp [weigh]
  | cons x a ih => simp only [List.cons_append, weigh, ih]; omega
theorem weigh_few {N : Nat} {Q : Nat → Line} {r : Nat} : ∀ {l : List Int}, (∀ y, y ∈ l → rank N Q y ≤ r) → weigh N Q l ≤ l.length * 13 ^ r := by
  intro l
  induction l with
  | nil => intro _; simp [weigh]
  | cons x l ih =>
    intro h
    have h1 := ih (fun y hy => h y (List.mem_cons_of_mem _ hy))
    have h2 : 13 ^ rank N Q x ≤ 13 ^ r := Nat.pow_le_pow_right (by omega) (h x List.mem_cons_self)
    simp only [weigh, List.length_cons, Nat.add_mul, Nat.one_mul]
    omega
theorem weigh_push {N : Nat} {K : Nat → Int} {H Q : Nat → Line} (hg : GoodI N K H Q) (hs : ShortTo N H Q 1048576) {x : Int} {ks : List Int} (hf : ForIs N H Q x ks) : weigh N Q ks < 13 ^ rank N Q x := by
  cases hk : ks with
  | nil => simp only [weigh]; exact Nat.pow_pos (by omega)
  | cons y l =>
    have hy : y ∈ ks := by rw [hk]; exact List.mem_cons_self
    have hpos := rank_less hg hs hf hy
    obtain ⟨r, hr⟩ : ∃ r, rank N Q x = r + 1 := ⟨rank N Q x - 1, by omega⟩
    have h1 := weigh_few (N := N) (Q := Q) (r := r) (l := ks) (fun z hz => by have := rank_less hg hs hf hz; omega)
    have h2 := forIs_len hg hf
    rw [← hk, hr, Nat.pow_succ]
    have h3 : ks.length * 13 ^ r ≤ 12 * 13 ^ r := Nat.mul_le_mul_right _ h2
    have h4 : 0 < 13 ^ r := Nat.pow_pos (by omega)
    omega

end Go.Proofs.Ytdmkpflphjemoaa

namespace Go.Proofs.Ytdmkpflphjemoaa
open Go.RowKit Go.MapKept Go.ChangeMaps

theorem Try.keyed : Maps.Keyed Try.prog 3 := Maps.int_keyed Try.underlying3
/-- The block b holds the set of the tasks rs. -/
def SetIs (w : World) (b : Nat) (rs : List Int) : Prop :=
  ∃ D : DataW Unit, w.ownsMap Try.prog 3 unitElem b rs.length D ∧ rs.Nodup ∧ (∀ y, y ∈ rs → isTask y) ∧ ∀ y, y ∈ rs → Maps.has D (.int .i64 y) = true
theorem SetIs.block {w : World} {b : Nat} {rs : List Int} (h : SetIs w b rs) : ∃ es clock, w.heap[b]? = some (.map es clock) := by
  obtain ⟨D, ⟨es, clock, hb, _⟩, _⟩ := h
  exact ⟨es, clock, hb⟩
theorem SetIs.kept {w w' : World} {S : Nat → Prop} {b : Nat} {rs : List Int} (h : SetIs w b rs) (hk : Kept w w' S) (hs : ¬ S b) : SetIs w' b rs := by
  obtain ⟨D, ⟨es, clock, hb, r⟩, h2⟩ := h
  exact ⟨D, ⟨es, clock, (hk.block b (blk_lt hb) hs).trans hb, r⟩, h2⟩
theorem SetIs.below {w w' : World} {b : Nat} {rs : List Int} (h : SetIs w b rs) (hb : Below w.heap.size w w') : SetIs w' b rs := h.kept (S := fun _ => False) (Kept.of_below hb) (fun h => h)
theorem set_made (w : World) : SetIs (w.alloc (.map #[] 0)) w.heap.size [] := ⟨.map [], World.ownsMap_made w _ _ _, List.nodup_nil, by simp, by simp⟩
theorem SetIs.few {w : World} {b : Nat} {rs : List Int} (h : SetIs w b rs) : rs.length ≤ 12 := by
  obtain ⟨D, _, h2, h3, _⟩ := h
  exact few_tasks rs h2 h3
/-- A row of cells is not the block of a set. -/
theorem SetIs.not_row {w : World} {b base e size n : Nat} {rs : List Int} {v : Value} {xs : List Value} (h : SetIs w b rs) (ho : w.ownsRow base e size v n xs) : v.ownBlock ≠ some b := by
  obtain ⟨es, clock, hb⟩ := h.block
  intro e
  rcases ho.2 with ⟨rfl, _⟩ | ⟨g, cap, cur, rfl, _, hg, _⟩
  · simp [Value.ownBlock] at e
  · simp only [Value.ownBlock, Option.some.injEq] at e
    subst e
    rw [hb] at hg
    simp at hg
theorem key_task {y : Int} (h : isTask y) : keyOf Try.prog 3 (.int .i64 y) = some (.int .i64 y) := by
  obtain ⟨h1, h2⟩ := h
  have hw : (Lit.int .i64 y).wf = true := by simp [Lit.wf, IntKind.min, IntKind.max, IntKind.signed, IntKind.bits]; omega
  simp [keyOf, mapKey, Try.underlying3, hw]
theorem run_clear_map {P : Program} {w : World} {b : Nat} {es : Array MapEntry} {clock : Nat} {t k e : TypeId} (ht : P.underlying t = some (.map k e)) (hb : w.heap[b]? = some (.map es clock)) (ty : TypeId) :
    (Builtin.clear_ #[t] ty #[.map (some b)]).run P w = .ok (.tuple #[]) (setBlock w b (.map #[] clock)) := by
  simp [Builtin.clear_, run_underlying ht, getObj, setObj, Sem.run, hb, setBlock]
theorem set_clear {w : World} {b : Nat} {rs : List Int} (h : SetIs w b rs) (t : TypeId) {k e : TypeId} (ht : Try.prog.underlying t = some (.map k e)) :
    ∃ w', (∀ ty, (Builtin.clear_ #[t] ty #[.map (some b)]).run Try.prog w = .ok (.tuple #[]) w') ∧ SetIs w' b [] ∧ w.grownBy w' (some b) := by
  obtain ⟨es, clock, hb⟩ := h.block
  refine ⟨setBlock w b (.map #[] clock), run_clear_map ht hb, ?_, ?_⟩
  · exact ⟨.map [], ⟨#[], clock, heap_setBlock_same hb _, ⟨by simp, stamped_empty clock, by simp⟩, Nat.le_refl _, rfl⟩, List.nodup_nil, by simp, by simp⟩
  · exact ⟨rfl, rfl, rfl, by simp [setBlock], fun i _ hi => heap_setBlock_other hb _ (fun e => hi (by rw [e]))⟩

end Go.Proofs.Ytdmkpflphjemoaa

/-
  OWN TEXT: KitE, EarlyS.
-/
import Derived.Test.YthcjfoaejomfaaaB29
import Derived.Test.YthcjfoaejomfaaaB13
import Derived.Test.YthcjfoaejomfaaaB26
import Derived.Test.YthcjfoaejomfaaaB28
namespace Go.Proofs.Ythcjfoaejomfaaa
open Go.RowKit

/-- append(v, u), one step: v is empty or owned. -/
theorem step_append_spec {P : Program} {ops : Array Oper} {o : Oper} {a : Act} {w : World} {K : Act → World → Prop} {Q : Exit → Act → World → Prop} {E : Prop}
    (hg : o.guard = none) (s x : Operand) (t : TypeId) (hop : o.op = Op.call { callee := Callee.builtin Builtin.append, args := #[s, x], argTypes := #[t, t] })
    (base : Nat) (e : TypeId) (i : TypeInfo) (z : Value) (bytes : Nat) (h1 : P.underlying t = some (.slice e)) (h2 : P.info? e = some i) (h3 : i.zero = some z) (h4 : i.size = 1) (h5 : i.bytes = bytes) (h6 : z.cells.size = 1)
    (ao : Option Addr) (n c : Nat) (xs : List Value) (hs : a.eval s = .slice ao n c) (hd : SpecRow w base e 1 (.slice ao n c) n xs) (hnil : ao = none → n = 0 ∧ c = 0) (hxs : n = 0 → xs = [])
    (ad : Addr) (u : Value) (hx : a.eval x = .slice (some ad) 1 1) (hu : w.cell? (ad.add 0) = some u) (hu1 : u.oneCell' = true)
    (b1 : n + 1 ≤ maxLen) (b2 : (n + 1) * bytes ≤ 140737488355328) (hbase : base ≤ w.heap.size)
    (hK : ∀ v' w', w'.ownsRow base e 1 v' (n + 1) (xs ++ [u]) → (∀ W0 : World, Below W0.heap.size W0 w → W0.heap.size ≤ base → Below W0.heap.size W0 w') → K (a.put o.dst v') w') :
    if Region.wanted o (yielded ops a.tmps) = true then Oper.wp P o a w K Q else E := by
  have hnews : ∀ j v, [u][j]? = some v → w.cell? (ad.add j) = some v := by
    intro j v hv
    match j, hv with
    | 0, hv => simp at hv; subst hv; exact hu
    | j + 1, hv => simp at hv
  have hone : ∀ v ∈ [u], v.oneCell' = true := by intro v hv; simp at hv; subst hv; exact hu1
  rcases hd with ⟨h0, ao', e'⟩ | ⟨h0, hown⟩
  · subst h0
    simp only [Value.slice.injEq, true_and] at e'
    obtain ⟨rfl, rfl⟩ := e'
    rw [hxs rfl] at hK
    refine step_append_grows hg s x t hop e i z 1 bytes h1 h2 h3 h4 h5 h6 (by decide) ao 0 0 [] hs hnil (by simp) (by simp) ad 1 1 [u] hx (by simp) hnews hone (by omega) b1 b2 ?_
    intro v' w' ho hgr
    exact hK v' w' (own_base ho hbase) (fun W0 hb _ => hb.grown hgr hb.size (by simp))
  · refine step_append_lies w hg s x t hop base e i z 1 bytes h1 h2 h3 h4 h5 h6 (by decide) _ n xs hs hown ad 1 1 [u] hx (by simp) hnews hone (by decide) b1 b2 hbase _ rfl ?_
    intro g cap w' ho hgr _ _
    exact hK _ w' ho (fun W0 hb hle => hb.grown hgr hb.size (fun k hk => Nat.le_trans hle (hown.lt k hk).1))

end Go.Proofs.Ythcjfoaejomfaaa

namespace Go.Proofs.Ythcjfoaejomfaaa
open Go.RowKit

theorem Try.infoIntS : (Try.prog.info? 26).map (fun i => (i.zero, i.size, i.bytes)) = some (some (.slice none 0 0), 1, 24) := by kernel_rfl
/-- A way's Ids in memory. -/
def LegRow (w : World) (base : Nat) (S : Nat → Sail) (v : Value) (p : List Nat) : Prop := w.ownsRow base 3 1 v p.length (cellsI (ids S p))
theorem LegRow.below {w w' : World} {base : Nat} {S : Nat → Sail} {v : Value} {p : List Nat} (h : LegRow w base S v p) (hb : Below w.heap.size w w') : LegRow w' base S v p := own_below hb h
theorem LegRow.form {w : World} {base : Nat} {S : Nat → Sail} {v : Value} {p : List Nat} (h : LegRow w base S v p) : ∃ ao c, v = .slice ao p.length c ∧ IntsAt w ao p.length (getI (ids S p)) ∧ (ao = none → p.length = 0 ∧ c = 0) := by
  obtain ⟨ao, c, e, _, _, hn⟩ := own_form h
  refine ⟨ao, c, e, ?_, hn⟩
  have h' := h
  unfold LegRow at h'
  rw [e] at h'
  exact own_legs (by rw [ids_length]) h'
/-- Ways in memory, a list of lists. -/
def RowsOk (w : World) (base : Nat) (S : Nat → Sail) (v : Value) (rows : List (List Nat)) : Prop :=
  ∃ vs : Nat → Value, w.ownsRow base 26 1 v rows.length ((List.range rows.length).map vs) ∧ ∀ i p, rows[i]? = some p → LegRow w base S (vs i) p
theorem RowsOk.below {w w' : World} {base : Nat} {S : Nat → Sail} {v : Value} {rows : List (List Nat)} (h : RowsOk w base S v rows) (hb : Below w.heap.size w w') : RowsOk w' base S v rows := by
  obtain ⟨vs, h1, h2⟩ := h
  exact ⟨vs, own_below hb h1, fun i p hp => (h2 i p hp).below hb⟩
theorem RowsOk.base {w : World} {base base' : Nat} {S : Nat → Sail} {v : Value} {rows : List (List Nat)} (h : RowsOk w base S v rows) (hb : base' ≤ base) : RowsOk w base' S v rows := by
  obtain ⟨vs, h1, h2⟩ := h
  exact ⟨vs, own_base h1 hb, fun i p hp => own_base (h2 i p hp) hb⟩
theorem leg_grown {w w' : World} {base b2 : Nat} {S : Nat → Sail} {v s : Value} {p : List Nat} {n : Nat} {xs : List Value} (h : LegRow w base S v p) (ho : w.ownsRow b2 26 1 s n xs) (hg : w.grownBy w' s.ownBlock) : LegRow w' base S v p := by
  refine h.kept hg ?_
  cases hv : v.ownBlock with
  | none => exact .inl rfl
  | some g =>
    right
    intro e
    exact own_apart h ho (by decide) g hv e.symm
/-- One way more behind the others. -/
theorem RowsOk.snoc {w w' : World} {base : Nat} {S : Nat → Sail} {s v' x : Value} {rows : List (List Nat)} {q : List Nat} (h : RowsOk w base S s rows) (hx : LegRow w base S x q) (hg : w.grownBy w' s.ownBlock)
    (ho : ∀ vs, w.ownsRow base 26 1 s rows.length ((List.range rows.length).map vs) → w'.ownsRow base 26 1 v' (rows.length + 1) ((List.range rows.length).map vs ++ [x])) : RowsOk w' base S v' (rows ++ [q]) := by
  obtain ⟨vs, h1, h2⟩ := h
  refine ⟨upd vs rows.length x, ?_, fun i p hp => ?_⟩
  · rw [List.length_append, List.length_singleton, List.range_succ, List.map_append, List.map_singleton, upd_at]
    have hcg : (List.range rows.length).map (upd vs rows.length x) = (List.range rows.length).map vs := by
      refine List.map_congr_left fun j hj => upd_ne _ _ _ ?_
      have hj' : j < rows.length := by simpa using hj
      omega
    rw [hcg]
    exact ho vs h1
  · by_cases e : i = rows.length
    · subst e
      rw [upd_at]
      simp at hp
      subst hp
      exact leg_grown hx h1 hg
    · rw [upd_ne _ _ _ e]
      have hi : i < rows.length := by
        have := (List.getElem?_eq_some_iff.1 hp).1
        simp at this
        omega
      rw [List.getElem?_append_left hi] at hp
      exact leg_grown (h2 i p hp) h1 hg

section
variable (N : Nat) (S : Nat → Sail) (fr : ByteArray) (t0 : Int) (tt : ByteArray)
/-- Ahead of level n. -/
structure L1 (w wn : World) (n : Nat) (rows seen : List (List Nat)) (bst : Option (List Nat)) (lv : Int) (s10 s12 : Value) : Prop where
  row : RowsOk wn w.heap.size S s12 rows
  lev : Level N S fr t0 n rows
  best : BestIn S fr t0 tt seen bst
  is : ∀ q, q ∈ seen → Path N S fr t0 q ∧ q.length ≤ n ∧ q ≠ []
  all : ∀ q, Path N S fr t0 q → q.length ≤ n → q ≠ [] → q ∈ seen
  bat : LegRow wn w.heap.size S s10 (bst.getD [])
  least : ∀ p, bst = some p → lv = timeOf S t0 p
  few : rows.length ≤ 6 ^ n
  bel : Below w.heap.size w wn
/-- Inside level n: rows 0 to i-1 are done, of row i the first k sailings. -/
structure L2 (w wn wi : World) (n : Nat) (rows : List (List Nat)) (i k : Nat) (next seen : List (List Nat)) (bst : Option (List Nat)) (lv : Int) (s10 s14 : Value) : Prop where
  nxt : RowsOk wi wn.heap.size S s14 next
  lt : LevelTo N S fr t0 n rows i k next
  best : BestIn S fr t0 tt (seen ++ next) bst
  bat : LegRow wi w.heap.size S s10 (bst.getD [])
  least : ∀ p, bst = some p → lv = timeOf S t0 p
  few : next.length ≤ i * 6 + k
  bel : Below wn.heap.size wn wi
end

theorem l2_start {N : Nat} {S : Nat → Sail} {fr : ByteArray} {t0 : Int} {tt : ByteArray} {w wn : World} {n : Nat} {rows seen : List (List Nat)} {bst : Option (List Nat)} {lv : Int} {s10 s12 : Value} (h : L1 N S fr t0 tt w wn n rows seen bst lv s10 s12) :
    L2 N S fr t0 tt w wn wn n rows 0 0 [] seen bst lv s10 (.slice none 0 0) :=
  ⟨⟨fun _ => .bool false, World.ownsRow_nil _ _ _ _, fun i p hp => by simp at hp⟩, levelTo_start n rows, by rw [List.append_nil]; exact h.best, h.bat, h.least, by simp, Below.refl _ _⟩
theorem l2_end {N : Nat} {S : Nat → Sail} {fr : ByteArray} {t0 : Int} {tt : ByteArray} {w wn wi : World} {n : Nat} {rows next seen : List (List Nat)} {bst b2 : Option (List Nat)} {lv l2 : Int} {s10 s12 t10 s14 : Value}
    (h : L1 N S fr t0 tt w wn n rows seen bst lv s10 s12) (h2 : L2 N S fr t0 tt w wn wi n rows rows.length 0 next seen b2 l2 t10 s14) : L1 N S fr t0 tt w wi (n + 1) next (seen ++ next) b2 l2 t10 s14 := by
  have hlev := levelTo_end h.lev h2.lt
  refine ⟨h2.nxt.base h.bel.size, hlev, h2.best, fun q hq => ?_, fun q h1 h3 h4 => ?_, h2.bat, h2.least, ?_, after h.bel h2.bel⟩
  · rcases List.mem_append.1 hq with hq | hq
    · have := h.is q hq; exact ⟨this.1, by omega, this.2.2⟩
    · have := h2.lt.is q hq; exact ⟨this.1, by omega, fun e => by subst e; simp at this⟩
  · by_cases e : q.length ≤ n
    · exact List.mem_append.2 (.inl (h.all q h1 e h4))
    · exact List.mem_append.2 (.inr ((hlev.all q).2 ⟨h1, by omega⟩))
  · have := h2.few; have := h.few; rw [Nat.pow_succ]; omega
theorem l2_row {N : Nat} {S : Nat → Sail} {fr : ByteArray} {t0 : Int} {tt : ByteArray} {w wn wi : World} {n i : Nat} {rows next seen : List (List Nat)} {bst : Option (List Nat)} {lv : Int} {s10 s14 : Value} (hN : N ≤ 6)
    (h : L2 N S fr t0 tt w wn wi n rows i N next seen bst lv s10 s14) : L2 N S fr t0 tt w wn wi n rows (i + 1) 0 next seen bst lv s10 s14 :=
  ⟨h.nxt, levelTo_row h.lt, h.best, h.bat, h.least, by have := h.few; omega, h.bel⟩
/-- A sailing by which row i can't go on. -/
theorem l2_skip {N : Nat} {S : Nat → Sail} {fr : ByteArray} {t0 : Int} {tt : ByteArray} {w wn wi wj : World} {n i k : Nat} {rows next seen : List (List Nat)} {bst : Option (List Nat)} {lv : Int} {s10 s14 : Value}
    (h : L2 N S fr t0 tt w wn wi n rows i k next seen bst lv s10 s14) (hb : Below wi.heap.size wi wj) {r : List Nat} (hr : rows[i]? = some r) (hno : ¬ Path N S fr t0 (r ++ [k])) : L2 N S fr t0 tt w wn wj n rows i (k + 1) next seen bst lv s10 s14 :=
  ⟨h.nxt.below hb, levelTo_skip h.lt hr hno, h.best, h.bat.below hb, h.least, by have := h.few; omega, after h.bel hb⟩
/-- A sailing by which row i goes on; the best is b2 now. -/
theorem l2_add {N : Nat} {S : Nat → Sail} {fr : ByteArray} {t0 : Int} {tt : ByteArray} {w wn wi wj : World} {n i k : Nat} {rows next seen : List (List Nat)} {bst b2 : Option (List Nat)} {lv l2 : Int} {s10 s14 t10 t14 : Value}
    (hl : Level N S fr t0 n rows) (h : L2 N S fr t0 tt w wn wi n rows i k next seen bst lv s10 s14) {r : List Nat} (hr : rows[i]? = some r) (hp : Path N S fr t0 (r ++ [k]))
    (hn : RowsOk wj wn.heap.size S t14 (next ++ [r ++ [k]])) (hbst : BestIn S fr t0 tt (seen ++ (next ++ [r ++ [k]])) b2) (hbat : LegRow wj w.heap.size S t10 (b2.getD [])) (hlv : ∀ p, b2 = some p → l2 = timeOf S t0 p) (hb : Below wn.heap.size wn wj) :
    L2 N S fr t0 tt w wn wj n rows i (k + 1) (next ++ [r ++ [k]]) seen b2 l2 t10 t14 :=
  ⟨hn, levelTo_add hl h.lt hr hp, hbst, hbat, hlv, by rw [List.length_append]; have := h.few; show next.length + 1 ≤ _; omega, hb⟩
/-- All that was seen stands ahead of what row i makes by sailing k. -/
theorem l2_ahead {N : Nat} {S : Nat → Sail} {fr : ByteArray} {t0 : Int} {tt : ByteArray} {w wn wi : World} {n i k : Nat} {rows next seen : List (List Nat)} {bst b2 : Option (List Nat)} {lv l2 : Int} {s10 s12 t10 s14 : Value}
    (h1 : L1 N S fr t0 tt w wn n rows seen bst lv s10 s12) (h : L2 N S fr t0 tt w wn wi n rows i k next seen b2 l2 t10 s14) {r : List Nat} (hr : rows[i]? = some r) : ∀ q, q ∈ seen ++ next → Ahead q (r ++ [k]) := by
  have hrl := ((h1.lev.all r).1 (List.mem_of_getElem? hr)).2
  intro q hq
  rcases List.mem_append.1 hq with hq | hq
  · left; have := (h1.is q hq).2.1; rw [List.length_append]; show q.length < r.length + 1; omega
  · right; have := (h.lt.is q hq).2; exact ⟨by rw [List.length_append]; show q.length = r.length + 1; omega, levelTo_ahead h1.lev h.lt hr q hq⟩
theorem l2_bnil {N : Nat} {S : Nat → Sail} {fr : ByteArray} {t0 : Int} {tt : ByteArray} {w wn wi : World} {n i k : Nat} {rows next seen : List (List Nat)} {bst b2 : Option (List Nat)} {lv l2 : Int} {s10 s12 t10 s14 : Value}
    (h1 : L1 N S fr t0 tt w wn n rows seen bst lv s10 s12) (h : L2 N S fr t0 tt w wn wi n rows i k next seen b2 l2 t10 s14) : (b2.getD []).length = 0 ↔ b2 = none := by
  cases hb : b2 with
  | none => simp
  | some p =>
    have hp := h.best
    rw [hb] at hp
    have hne : p ≠ [] := by
      rcases List.mem_append.1 hp.1 with hq | hq
      · exact (h1.is p hq).2.2
      · intro e; have := (h.lt.is p hq).2; rw [e] at this; simp at this
    simp [hne]

theorem L2.below {N : Nat} {S : Nat → Sail} {fr : ByteArray} {t0 : Int} {tt : ByteArray} {w wn wi wj : World} {n i k : Nat} {rows next seen : List (List Nat)} {bst : Option (List Nat)} {lv : Int} {s10 s14 : Value}
    (h : L2 N S fr t0 tt w wn wi n rows i k next seen bst lv s10 s14) (hb : Below wi.heap.size wi wj) : L2 N S fr t0 tt w wn wj n rows i k next seen bst lv s10 s14 :=
  ⟨h.nxt.below hb, h.lt, h.best, h.bat.below hb, h.least, h.few, after h.bel hb⟩
theorem rows_snoc {w w' : World} {base : Nat} {S : Nat → Sail} {s v' x : Value} {rows : List (List Nat)} {q : List Nat} {vs : Nat → Value} (h1 : w.ownsRow base 26 1 s rows.length ((List.range rows.length).map vs)) (h2 : ∀ i p, rows[i]? = some p → LegRow w base S (vs i) p)
    (hx : LegRow w base S x q) (hg : w.grownBy w' s.ownBlock) (ho : w'.ownsRow base 26 1 v' (rows.length + 1) ((List.range rows.length).map vs ++ [x])) : RowsOk w' base S v' (rows ++ [q]) := by
  refine ⟨upd vs rows.length x, ?_, fun i p hp => ?_⟩
  · rw [List.length_append, List.length_singleton, List.range_succ, List.map_append, List.map_singleton, upd_at]
    have hcg : (List.range rows.length).map (upd vs rows.length x) = (List.range rows.length).map vs := by
      refine List.map_congr_left fun j hj => upd_ne _ _ _ ?_
      have hj' : j < rows.length := by simpa using hj
      omega
    rw [hcg]
    exact ho
  · by_cases e : i = rows.length
    · subst e
      rw [upd_at]
      simp at hp
      subst hp
      exact leg_grown hx h1 hg
    · rw [upd_ne _ _ _ e]
      have hi : i < rows.length := by
        have := (List.getElem?_eq_some_iff.1 hp).1
        simp at this
        omega
      rw [List.getElem?_append_left hi] at hp
      exact leg_grown (h2 i p hp) h1 hg
theorem box_apart {w : World} {b t base e size n : Nat} {cs : Array Value} {v : Value} {xs : List Value} (h : w.heap[b]? = some (.cells cs t (0, 0))) (ho : w.ownsRow base e size v n xs) (hne : t ≠ e) : some b ≠ v.ownBlock := by
  intro heq
  rcases ho.2 with ⟨rfl, _⟩ | ⟨g, cap, cur, rfl, _, hg, _⟩
  · simp [Value.ownBlock] at heq
  · simp only [Value.ownBlock, Option.some.injEq] at heq
    subst heq
    rw [h] at hg
    simp at hg
    exact hne hg.2
theorem SpecRow.nil {w : World} {base e size n c : Nat} {ao : Option Addr} {xs : List Value} (h : SpecRow w base e size (.slice ao n c) n xs) : ao = none → n = 0 ∧ c = 0 := by
  rcases h with ⟨h0, ao', e'⟩ | ⟨h0, ho⟩
  · intro _
    simp only [Value.slice.injEq] at e'
    exact ⟨h0, e'.2.2⟩
  · obtain ⟨ao', c', e', _, _, hn⟩ := own_form ho
    simp only [Value.slice.injEq, true_and] at e'
    obtain ⟨rfl, rfl⟩ := e'
    exact hn
theorem leg_of {w : World} {base base' : Nat} {S : Nat → Sail} {v : Value} {r : List Nat} {k : Nat} (h : w.ownsRow base 3 1 v (r.length + 1) (cellsI (ids S r) ++ [.int .i64 (S k).id])) (hb : base' ≤ base) : LegRow w base' S v (r ++ [k]) := by
  unfold LegRow
  rw [ids_snoc, cellsI_snoc, List.length_append]
  exact own_base h hb

end Go.Proofs.Ythcjfoaejomfaaa

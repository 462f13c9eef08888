/-
  OWN TEXT: PlainW, KitA.
-/
import Derived.Test.YtdmkpflphjemoaaB01
import Derived.Test.YtdmkpflphjemoaaB04
import Derived.Test.YtdmkpflphjemoaaB03
namespace Go.Proofs.Ytdmkpflphjemoaa

/-- A list that rises. -/
def Strict (l : List Int) : Prop := l.Pairwise (· < ·)
theorem strict_nodup {l : List Int} (h : Strict l) : l.Nodup := List.Pairwise.imp (fun {a b} (h : a < b) => by omega) h
theorem strict_one : ∀ {l k : List Int}, Strict l → Strict k → (∀ x, x ∈ l ↔ x ∈ k) → l = k := by
  intro l
  induction l with
  | nil =>
    intro k _ _ h
    cases k with
    | nil => rfl
    | cons b k => exact absurd ((h b).2 List.mem_cons_self) (by simp)
  | cons a l ih =>
    intro k hl hk h
    cases k with
    | nil => exact absurd ((h a).1 List.mem_cons_self) (by simp)
    | cons b k =>
      obtain ⟨ha, hl'⟩ := List.pairwise_cons.1 hl
      obtain ⟨hb, hk'⟩ := List.pairwise_cons.1 hk
      have hab : a = b := by
        rcases List.mem_cons.1 ((h a).1 List.mem_cons_self) with e | e
        · exact e
        · rcases List.mem_cons.1 ((h b).2 List.mem_cons_self) with e' | e'
          · exact e'.symm
          · have := hb a e; have := ha b e'; omega
      subst hab
      congr 1
      refine ih hl' hk' (fun x => ?_)
      constructor
      · intro hx
        rcases List.mem_cons.1 ((h x).1 (List.mem_cons_of_mem _ hx)) with e | e
        · subst e; have := ha x hx; omega
        · exact e
      · intro hx
        rcases List.mem_cons.1 ((h x).2 (List.mem_cons_of_mem _ hx)) with e | e
        · subst e; have := hb x hx; omega
        · exact e

/-- Those that hold, then the first j of the queue. -/
def catLine (h q : Line) (j : Nat) : Line := ⟨h.n + j, fun t => if t < h.n then h.T t else q.T (t - h.n), fun t => if t < h.n then h.S t else q.S (t - h.n)⟩
theorem cat_lo {h q : Line} {j t : Nat} (ht : t < h.n) : (catLine h q j).T t = h.T t ∧ (catLine h q j).S t = h.S t := ⟨if_pos ht, if_pos ht⟩
theorem cat_hi {h q : Line} {j t : Nat} : (catLine h q j).T (h.n + t) = q.T t ∧ (catLine h q j).S (h.n + t) = q.S t := by
  unfold catLine
  simp only
  rw [if_neg (by omega), if_neg (by omega), show h.n + t - h.n = t by omega]
  exact ⟨rfl, rfl⟩
/-- Of the first t of a line those that one who asks (shared: s) waits for. -/
def seqTo (l : Line) (s : Bool) : Nat → List Int
  | 0 => []
  | t + 1 => if (!l.S t || !s) then seqTo l s t ++ [l.T t] else seqTo l s t
theorem seqTo_yes {l : Line} {s : Bool} {t : Nat} (h : (!l.S t || !s) = true) : seqTo l s (t + 1) = seqTo l s t ++ [l.T t] := by rw [seqTo, if_pos h]
theorem seqTo_no {l : Line} {s : Bool} {t : Nat} (h : (!l.S t || !s) = false) : seqTo l s (t + 1) = seqTo l s t := by rw [seqTo, h]; rfl
theorem seqTo_mem {l : Line} {s : Bool} {t : Nat} {x : Int} (h : x ∈ seqTo l s t) : ∃ t', t' < t ∧ l.T t' = x := by
  induction t with
  | zero => simp [seqTo] at h
  | succ t ih =>
    cases hb : (!l.S t || !s) with
    | true =>
      rw [seqTo_yes hb] at h
      rcases List.mem_append.1 h with h | h
      · obtain ⟨t', ht', e⟩ := ih h; exact ⟨t', by omega, e⟩
      · simp only [List.mem_singleton] at h; exact ⟨t, by omega, h.symm⟩
    | false =>
      rw [seqTo_no hb] at h
      obtain ⟨t', ht', e⟩ := ih h; exact ⟨t', by omega, e⟩
theorem seqTo_le (l : Line) (s : Bool) (t : Nat) : (seqTo l s t).length ≤ t := by
  induction t with
  | zero => exact Nat.le_refl _
  | succ t ih =>
    cases hb : (!l.S t || !s) with
    | true => rw [seqTo_yes hb]; simp; exact ih
    | false => rw [seqTo_no hb]; omega
theorem seqTo_nodup {l : Line} {s : Bool} : ∀ t, (∀ i j, i < j → j < t → l.T i ≠ l.T j) → (seqTo l s t).Nodup := by
  intro t
  induction t with
  | zero => intro _; exact List.nodup_nil
  | succ t ih =>
    intro h
    have ih' := ih (fun i j hij hj => h i j hij (by omega))
    cases hb : (!l.S t || !s) with
    | true =>
      rw [seqTo_yes hb, List.nodup_append]
      refine ⟨ih', by simp, fun a ha b hb' e => ?_⟩
      simp only [List.mem_singleton] at hb'
      subst hb'
      obtain ⟨t', ht', e'⟩ := seqTo_mem ha
      exact h t' t ht' (by omega) (by rw [e', e])
    | false => rw [seqTo_no hb]; exact ih'

theorem line_rise {l : Line} (h : ∀ k, k < l.n → 0 < k → l.T (k - 1) < l.T k) {t : Nat} : ∀ p, t < p → p < l.n → l.T t < l.T p := by
  intro p
  induction p with
  | zero => intro h0; omega
  | succ p ih =>
    intro h1 h2
    have := h (p + 1) h2 (by omega)
    simp only [Nat.add_sub_cancel] at this
    by_cases e : t = p
    · subst e; exact this
    · have := ih (by omega) (by omega); omega
/-- Nobody stands twice at a lock. -/
theorem cat_apart {N : Nat} {K : Nat → Int} {H Q : Nat → Line} (hg : GoodI N K H Q) {i j : Nat} (hi : i < N) (hj : j ≤ (Q i).n) : ∀ a b, a < b → b < (H i).n + j → (catLine (H i) (Q i) j).T a ≠ (catLine (H i) (Q i) j).T b := by
  intro a b hab hb
  obtain ⟨_, hh, hq⟩ := hg.2.1 i hi
  by_cases h1 : b < (H i).n
  · rw [(cat_lo (q := Q i) (j := j) h1).1, (cat_lo (q := Q i) (j := j) (show a < (H i).n by omega)).1]
    have := line_rise (fun k hk k0 => (hh.2 k hk).2.1 k0) b hab h1
    omega
  · obtain ⟨b', rfl⟩ : ∃ b', b = (H i).n + b' := ⟨b - (H i).n, by omega⟩
    rw [(cat_hi (h := H i) (q := Q i) (j := j)).1]
    by_cases h2 : a < (H i).n
    · rw [(cat_lo (q := Q i) (j := j) h2).1]
      intro e
      exact (hq.1 b' (by omega)).2 ⟨a, h2, e⟩
    · obtain ⟨a', rfl⟩ : ∃ a', a = (H i).n + a' := ⟨a - (H i).n, by omega⟩
      rw [(cat_hi (h := H i) (q := Q i) (j := j)).1]
      intro e
      refine (hg.2.2 i hi).2 b' (by omega) (List.mem_append.2 (.inr ((mem_tasks (Q i) b' _).2 ⟨a', by omega, e⟩)))
theorem cat_tasks {N : Nat} {K : Nat → Int} {H Q : Nat → Line} (hg : GoodI N K H Q) {i j : Nat} (hi : i < N) (hj : j ≤ (Q i).n) : ∀ a, a < (H i).n + j → isTask ((catLine (H i) (Q i) j).T a) := by
  intro a ha
  obtain ⟨_, hh, hq⟩ := hg.2.1 i hi
  by_cases h1 : a < (H i).n
  · rw [(cat_lo (q := Q i) (j := j) h1).1]; exact (hh.2 a h1).1
  · obtain ⟨a', rfl⟩ : ∃ a', a = (H i).n + a' := ⟨a - (H i).n, by omega⟩
    rw [(cat_hi (h := H i) (q := Q i) (j := j)).1]; exact (hq.1 a' (by omega)).1
/-- A rising list of some of a lock's tasks is short. -/
theorem strict_few {l : Line} {s : Bool} {t : Nat} {ks : List Int} (hs : Strict ks) (hm : ∀ y, y ∈ ks ↔ y ∈ seqTo l s t) (ht : ∀ a, a < t → isTask (l.T a)) : ks.length ≤ 12 := by
  refine few_tasks ks (strict_nodup hs) (fun x hx => ?_)
  obtain ⟨t', ht', e⟩ := seqTo_mem ((hm x).1 hx)
  rw [← e]; exact ht t' ht'
theorem seqTo_few {l : Line} {s : Bool} {t : Nat} (ha : ∀ i j, i < j → j < t → l.T i ≠ l.T j) (ht : ∀ a, a < t → isTask (l.T a)) : (seqTo l s t).length ≤ 12 := by
  refine few_tasks _ (seqTo_nodup t ha) (fun x hx => ?_)
  obtain ⟨t', ht', e⟩ := seqTo_mem hx
  rw [← e]; exact ht t' ht'

/-- A number is laid into a rising list at its place. -/
theorem strict_put {ks : List Int} {x : Int} (k : Nat) (hs : Strict ks) (hlo : ∀ y, y ∈ ks.take k → y < x) (hhi : ∀ y, y ∈ ks.drop k → x < y) : Strict (ks.take k ++ [x] ++ ks.drop k) ∧ ∀ y, y ∈ ks.take k ++ [x] ++ ks.drop k ↔ y ∈ ks ∨ y = x := by
  have hsplit : ks.take k ++ ks.drop k = ks := List.take_append_drop k ks
  have hs' : Strict (ks.take k ++ ks.drop k) := by rw [hsplit]; exact hs
  obtain ⟨h1, h2, h3⟩ := List.pairwise_append.1 hs'
  constructor
  · refine List.pairwise_append.2 ⟨List.pairwise_append.2 ⟨h1, by simp, fun a ha b hb => ?_⟩, h2, fun a ha b hb => ?_⟩
    · simp only [List.mem_singleton] at hb; subst hb; exact hlo a ha
    · rcases List.mem_append.1 ha with ha | ha
      · exact h3 a ha b hb
      · simp only [List.mem_singleton] at ha; subst ha; exact hhi b hb
  · intro y
    have hm : y ∈ ks ↔ y ∈ ks.take k ∨ y ∈ ks.drop k := by rw [← List.mem_append, hsplit]
    rw [hm]
    simp only [List.mem_append, List.mem_singleton]
    constructor
    · rintro ((h | h) | h)
      · exact .inl (.inl h)
      · exact .inr h
      · exact .inl (.inr h)
    · rintro ((h | h) | h)
      · exact .inl (.inl h)
      · exact .inr h
      · exact .inl (.inr h)

end Go.Proofs.Ytdmkpflphjemoaa

namespace Go.Proofs.Ytdmkpflphjemoaa
open Go.RowKit

theorem wpList_append_any {P : Program} (w : World) {ops : Array Oper} {rest : List Oper} {o : Oper} {a : Act} {Q : Exit → Act → World → Prop}
    (hg : o.guard = none) (s x : Operand) (t : TypeId) (hop : o.op = Op.call { callee := Callee.builtin Builtin.append, args := #[s, x], argTypes := #[t, t] })
    (base : Nat) (e : TypeId) (i : TypeInfo) (z : Value) (size bytes : Nat) (h1 : P.underlying t = some (.slice e)) (h2 : P.info? e = some i) (h3 : i.zero = some z) (h4 : i.size = size) (h5 : i.bytes = bytes) (h6 : z.cells.size = size) (h7 : 0 < size)
    (v : Value) (n : Nat) (xs : List Value) (hs : a.eval s = v) (h : w.ownsRow base e size v n xs)
    (sa : Option Addr) (m c : Nat) (news : List Value) (hx : a.eval x = .slice sa m c) (hnil : sa = none → m = 0 ∧ c = 0) (hn : news.length = m * size) (hc : ∀ ad, sa = some ad → ∀ j u, news[j]? = some u → w.cell? (ad.add j) = some u) (h1c : ∀ u ∈ news, u.oneCell' = true)
    (b1 : n + m ≤ maxLen) (b2 : (n + m) * bytes ≤ 140737488355328) (hbase : base ≤ w.heap.size)
    (hK : ∀ v' w', w'.ownsRow base e size v' (n + m) (xs ++ news) → w.grownBy w' v.ownBlock → wpList P ops Q rest (a.put o.dst v') w') :
    wpList P ops Q (o :: rest) a w := by
  cases sa with
  | none =>
    obtain ⟨rfl, rfl⟩ := hnil rfl
    have hnews : news = [] := List.eq_nil_of_length_eq_zero (by simpa using hn)
    subst hnews
    refine wpList_append_own_none hg s x t hop base e i size h1 h2 v n xs hs h hx (hK v w ?_ (World.grownBy.refl w _))
    rw [Nat.add_zero, List.append_nil]; exact h
  | some ad =>
    refine wpList_append_own w hg s x t hop base e i z size bytes h1 h2 h3 h4 h5 h6 h7 v n xs hs h ad m c news hx hn (hc ad rfl) h1c b1 b2 hbase ?_
    intro v' w' ho hgr _
    exact hK v' w' ho hgr

theorem askList_length (l : Line) : (askList l).length = l.n * 2 := by simp [askList]
theorem askList_get {l : Line} {j : Nat} {u : Value} (h : (askList l)[j]? = some u) : j < l.n * 2 ∧ u = askCell l j := by
  unfold askList at h
  rw [List.getElem?_map] at h
  by_cases hj : j < l.n * 2
  · rw [List.getElem?_range hj] at h; simp at h; exact ⟨hj, h.symm⟩
  · rw [List.getElem?_eq_none (by simpa using hj)] at h; cases h
theorem askList_one (l : Line) : ∀ u ∈ askList l, u.oneCell' = true := by
  intro u hu
  unfold askList at hu
  simp only [List.mem_map] at hu
  obtain ⟨j, _, rfl⟩ := hu
  unfold askCell
  split <;> rfl
/-- The cells of a line, read at its address. -/
theorem line_cells {w : World} {ao : Option Addr} {l : Line} (h : LineAt w ao l) : ∀ ad, ao = some ad → ∀ j u, (askList l)[j]? = some u → w.cell? (ad.add j) = some u := by
  intro ad e j u hu
  obtain ⟨hj, rfl⟩ := askList_get hu
  obtain ⟨b, off, e', h1, h2⟩ := h (j / 2) (by omega)
  rw [e] at e'
  simp only [Option.some.injEq] at e'
  subst e'
  rw [Addr.add_lit]
  by_cases hm : j % 2 = 0
  · rw [show off + j = off + j / 2 * 2 by omega, h1]; unfold askCell; rw [if_pos hm]
  · rw [show off + j = off + j / 2 * 2 + 1 by omega, h2]; unfold askCell; rw [if_neg hm]
theorem line_of_own {w : World} {base e c : Nat} {ao : Option Addr} {l : Line} (h : w.ownsRow base e 2 (.slice ao l.n c) l.n (askList l)) : LineAt w ao l := by
  intro k hk
  obtain ⟨g, rfl, _, _⟩ := own_addr h (by omega)
  have c0 := own_cell h (k * 2) (by omega) rfl
  have c1 := own_cell h (k * 2 + 1) (by omega) rfl
  rw [askCell_0] at c0
  rw [askCell_1] at c1
  exact ⟨g, 0, rfl, by rw [Nat.zero_add]; exact c0, by rw [Nat.zero_add]; exact c1⟩
/-- The first j of a line. -/
def headLine (l : Line) (j : Nat) : Line := ⟨j, l.T, l.S⟩
theorem headLine_at {w : World} {ao : Option Addr} {l : Line} {j : Nat} (h : LineAt w ao l) (hj : j ≤ l.n) : LineAt w ao (headLine l j) := fun k hk => h k (Nat.lt_of_lt_of_le hk hj)
theorem askList_cat (h q : Line) (j : Nat) : askList (catLine h q j) = askList h ++ askList (headLine q j) := by
  apply List.ext_getElem?
  intro i
  unfold askList
  have e1 : (catLine h q j).n = h.n + j := rfl
  have e2 : (headLine q j).n = j := rfl
  rw [e1, e2]
  by_cases hi : i < h.n * 2
  · rw [List.getElem?_append_left (by simpa using hi), List.getElem?_map, List.getElem?_map, List.getElem?_range (by omega), List.getElem?_range hi]
    simp only [Option.map_some, Option.some.injEq]
    unfold askCell
    rw [(cat_lo (q := q) (j := j) (show i / 2 < h.n by omega)).1, (cat_lo (q := q) (j := j) (show i / 2 < h.n by omega)).2]
  · rw [List.getElem?_append_right (by simpa using hi)]
    simp only [List.length_map, List.length_range, List.getElem?_map]
    by_cases hi2 : i < (h.n + j) * 2
    · rw [List.getElem?_range hi2, List.getElem?_range (by omega)]
      simp only [Option.map_some, Option.some.injEq]
      obtain ⟨i', rfl⟩ : ∃ i', i = h.n * 2 + i' := ⟨i - h.n * 2, by omega⟩
      unfold askCell headLine
      rw [show (h.n * 2 + i') / 2 = h.n + i' / 2 by omega, (cat_hi (h := h) (q := q) (j := j)).1, (cat_hi (h := h) (q := q) (j := j)).2, show h.n * 2 + i' - h.n * 2 = i' by omega, show (h.n * 2 + i') % 2 = i' % 2 by omega]
    · rw [List.getElem?_eq_none (by simpa using hi2), List.getElem?_eq_none (by simp; omega)]; rfl

/-- Grown, and written in one block alone. -/
theorem kept_by {w w' : World} {row : Option Nat} (h : w.grownBy w' row) : Kept w w' (fun b => row = some b) := ⟨h.os, h.tape, h.output, h.size, fun i hi hn => h.block i hi (fun e => hn e.symm)⟩

end Go.Proofs.Ytdmkpflphjemoaa

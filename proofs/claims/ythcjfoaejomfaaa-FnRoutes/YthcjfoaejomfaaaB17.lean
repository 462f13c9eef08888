/-
  OWN TEXT: KitH, PlainX.
-/
import Derived.Test.YthcjfoaejomfaaaB16
namespace Go.Proofs.Ythcjfoaejomfaaa
open Go.RowKit

theorem lexI_irrefl : ∀ p, ¬ lexI p p
  | [], h => by simp [lexI] at h
  | a :: p, h => by rcases h with h | ⟨_, h⟩
                    · omega
                    · exact lexI_irrefl p h
theorem lexI_nil (p : List Int) : ¬ lexI p [] := by cases p <;> simp [lexI]
theorem lexI_trans : ∀ {p q r}, lexI p q → lexI q r → lexI p r
  | _, [], _, h, _ => absurd h (lexI_nil _)
  | _, _ :: _, [], _, h => absurd h (lexI_nil _)
  | [], _ :: _, _ :: _, _, _ => trivial
  | a :: p, b :: q, c :: r, h1, h2 => by
    rcases h1 with h1 | ⟨e1, h1⟩
    · rcases h2 with h2 | ⟨e2, h2⟩
      · exact .inl (by omega)
      · exact .inl (by omega)
    · rcases h2 with h2 | ⟨e2, h2⟩
      · exact .inl (by omega)
      · exact .inr ⟨by omega, lexI_trans h1 h2⟩
theorem lexI_total : ∀ p q, lexI p q ∨ p = q ∨ lexI q p
  | [], [] => .inr (.inl rfl)
  | [], _ :: _ => .inl trivial
  | _ :: _, [] => .inr (.inr trivial)
  | a :: p, b :: q => by
    by_cases h : a < b
    · exact .inl (.inl h)
    · by_cases h2 : b < a
      · exact .inr (.inr (.inl h2))
      · have e : a = b := by omega
        subst e
        rcases lexI_total p q with h | h | h
        · exact .inl (.inr ⟨rfl, h⟩)
        · exact .inr (.inl (by rw [h]))
        · exact .inr (.inr (.inr ⟨rfl, h⟩))
def RBefR (a b : Rt) : Prop := RBef a.t a.ls b.t b.ls
theorem rbef_irrefl (a : Rt) : ¬ RBefR a a := by
  rintro (h | ⟨_, h | ⟨_, h⟩⟩)
  · omega
  · omega
  · exact lexI_irrefl _ h
theorem rbef_trans {a b c : Rt} (h1 : RBefR a b) (h2 : RBefR b c) : RBefR a c := by
  rcases h1 with h1 | ⟨e1, h1⟩
  · rcases h2 with h2 | ⟨e2, _⟩
    · exact .inl (by omega)
    · exact .inl (by omega)
  · rcases h2 with h2 | ⟨e2, h2⟩
    · exact .inl (by omega)
    · refine .inr ⟨by omega, ?_⟩
      rcases h1 with h1 | ⟨l1, h1⟩
      · rcases h2 with h2 | ⟨l2, _⟩
        · exact .inl (by omega)
        · exact .inl (by omega)
      · rcases h2 with h2 | ⟨l2, h2⟩
        · exact .inl (by omega)
        · exact .inr ⟨by omega, lexI_trans h1 h2⟩
theorem rbef_total (a b : Rt) : RBefR a b ∨ (a.t = b.t ∧ a.ls = b.ls) ∨ RBefR b a := by
  by_cases h1 : a.t < b.t
  · exact .inl (.inl h1)
  by_cases h2 : b.t < a.t
  · exact .inr (.inr (.inl h2))
  have e : a.t = b.t := by omega
  by_cases h3 : a.ls.length < b.ls.length
  · exact .inl (.inr ⟨e, .inl h3⟩)
  by_cases h4 : b.ls.length < a.ls.length
  · exact .inr (.inr (.inr ⟨e.symm, .inl h4⟩))
  have e2 : a.ls.length = b.ls.length := by omega
  rcases lexI_total a.ls b.ls with h | h | h
  · exact .inl (.inr ⟨e, .inr ⟨e2, h⟩⟩)
  · exact .inr (.inl ⟨e, h⟩)
  · exact .inr (.inr (.inr ⟨e.symm, .inr ⟨e2.symm, h⟩⟩))
theorem rbef_ord : Ord3 RBefR := by
  refine ⟨fun a b h1 h2 => rbef_irrefl a (rbef_trans h1 h2), fun a b c h1 h2 => rbef_trans h1 h2, fun a b c h1 h2 h3 => ?_⟩
  rcases rbef_total a b with h | ⟨e1, e2⟩ | h
  · exact h1 h
  · refine h2 ?_
    unfold RBefR at h3 ⊢
    rw [e1, e2] at h3
    exact h3
  · exact h2 (rbef_trans h h3)

/-- A route in memory. -/
def RtOk (w : World) (base : Nat) (r : Rt) : Prop := w.ownsRow base 3 1 r.v r.ls.length (cellsI r.ls) ∧ r.ls.length ≤ 3 ∧ 0 ≤ r.t ∧ r.t ≤ 10000
theorem RtOk.below {w w' : World} {base : Nat} {r : Rt} (h : RtOk w base r) (hb : Below w.heap.size w w') : RtOk w' base r := ⟨own_below hb h.1, h.2⟩
theorem RtOk.form {w : World} {base : Nat} {r : Rt} (h : RtOk w base r) : ∃ la lc, r.v = .slice la r.ls.length lc ∧ IntsAt w la r.ls.length (getI r.ls) ∧ (la = none → r.ls.length = 0 ∧ lc = 0) := by
  obtain ⟨la, lc, e, _, _, hn⟩ := own_form h.1
  refine ⟨la, lc, e, ?_, hn⟩
  have := h.1
  rw [e] at this
  exact own_legs rfl this
theorem comesFirst_rt (a b : Rt) (w : World) {b1 b2 : Nat} (ha : RtOk w b1 a) (hb : RtOk w b2 b) :
    Calls Try.prog 33 #[.agg #[a.v, .string a.pl, .int .i64 a.t], .agg #[b.v, .string b.pl, .int .i64 b.t]] w fun e w' => SaysIf (RBefR a b) e ∧ Below w.heap.size w w' := by
  obtain ⟨la, lc, e1, h1, _⟩ := ha.form
  obtain ⟨lb, mc, e2, h2, _⟩ := hb.form
  rw [e1, e2]
  have := ha.2
  have := hb.2
  exact comesFirst_any la lb _ _ lc mc a.ls b.ls a.pl b.pl a.t b.t w rfl rfl (by omega) (by omega) h1 h2 ha.2.2.1 ha.2.2.2 hb.2.2.1 hb.2.2.2

def rtCell (H : Nat → Rt) (j : Nat) : Value := if j % 3 = 0 then (H (j / 3)).v else if j % 3 = 1 then .string (H (j / 3)).pl else .int .i64 (H (j / 3)).t
theorem rtCell_0 (H : Nat → Rt) (k : Nat) : rtCell H (k * 3) = (H k).v := by
  unfold rtCell; rw [if_pos (by omega), show k * 3 / 3 = k by omega]
theorem rtCell_1 (H : Nat → Rt) (k : Nat) : rtCell H (k * 3 + 1) = .string (H k).pl := by
  unfold rtCell; rw [if_neg (by omega), if_pos (by omega), show (k * 3 + 1) / 3 = k by omega]
theorem rtCell_2 (H : Nat → Rt) (k : Nat) : rtCell H (k * 3 + 2) = .int .i64 (H k).t := by
  unfold rtCell; rw [if_neg (by omega), if_neg (by omega), show (k * 3 + 2) / 3 = k by omega]
def rtList (H : Nat → Rt) (n : Nat) : List Value := (List.range (n * 3)).map (rtCell H)

/-- The heap at block g: n routes. -/
def HeapAt (w : World) (base g n cap : Nat) (H : Nat → Rt) : Prop :=
  w.ownsRow base 50 3 (.slice (some ⟨g, 0, none⟩) n cap) n (rtList H n) ∧ ∀ i, i < n → RtOk w base (H i)
theorem HeapAt.below {w w' : World} {base g n cap : Nat} {H : Nat → Rt} (h : HeapAt w base g n cap H) (hb : Below w.heap.size w w') : HeapAt w' base g n cap H :=
  ⟨own_below hb h.1, fun i hi => (h.2 i hi).below hb⟩
theorem HeapAt.lt {w : World} {base g n cap : Nat} {H : Nat → Rt} (h : HeapAt w base g n cap H) : g < w.heap.size ∧ base ≤ g ∧ n ≤ cap := by
  rcases h.1.2 with ⟨e, _⟩ | ⟨g', cap', cur, e, hb, hg, hc, _⟩
  · cases e
  · simp only [Value.slice.injEq, Option.some.injEq, Addr.mk.injEq, and_true, true_and] at e
    obtain ⟨rfl, rfl⟩ := e
    exact ⟨blk_lt hg, hb, hc⟩
theorem HeapAt.cells {w : World} {base g n cap : Nat} {H : Nat → Rt} (h : HeapAt w base g n cap H) {i : Nat} (hi : i < n) :
    w.cell? ⟨g, i * 3, none⟩ = some (H i).v ∧ w.cell? ⟨g, i * 3 + 1, none⟩ = some (.string (H i).pl) ∧ w.cell? ⟨g, i * 3 + 2, none⟩ = some (.int .i64 (H i).t) := by
  refine ⟨?_, ?_, ?_⟩
  · rw [own_cell h.1 (i * 3) (by omega) rfl, rtCell_0]
  · rw [own_cell h.1 (i * 3 + 1) (by omega) rfl, rtCell_1]
  · rw [own_cell h.1 (i * 3 + 2) (by omega) rfl, rtCell_2]
theorem HeapAt.free {w : World} {base g n cap : Nat} {H : Nat → Rt} (h : HeapAt w base g n cap H) (i : Nat) : w.frozen? ⟨g, i, none⟩ = false := h.1.frozenAt i
theorem rt_kept {w w' : World} {base g n cap : Nat} {H : Nat → Rt} {r : Rt} (h : HeapAt w base g n cap H) (hk : Kept w w' (fun b => b = g)) (hr : RtOk w base r) : RtOk w' base r :=
  ⟨hk.own hr.1 (fun g' hg' e => own_apart hr.1 h.1 (by decide) g' hg' (by simp [Value.ownBlock, e])), hr.2⟩
def set3 (w : World) (g o : Nat) (v0 v1 v2 : Value) : World := ((w.setCell ⟨g, o, none⟩ v0).setCell ⟨g, o + 1, none⟩ v1).setCell ⟨g, o + 2, none⟩ v2
theorem set3_kept (w : World) (g o : Nat) (v0 v1 v2 : Value) : Kept w (set3 w g o v0 v1 v2) (fun b => b = g) :=
  (((Kept.refl w (fun b => b = g)).set (a := ⟨g, o, none⟩) rfl v0).set (a := ⟨g, o + 1, none⟩) rfl v1).set (a := ⟨g, o + 2, none⟩) rfl v2
/-- A route is stored into the heap. -/
theorem HeapAt.upd {w : World} {base g n cap : Nat} {H : Nat → Rt} (h : HeapAt w base g n cap H) (i : Nat) {r : Rt} (hr : RtOk w base r) :
    HeapAt (set3 w g (i * 3) r.v (.string r.pl) (.int .i64 r.t)) base g n cap (upd H i r) := by
  refine ⟨?_, fun k hk => ?_⟩
  · refine own_congr (own_store (own_store (own_store h.1 (i * 3) r.v) (i * 3 + 1) (.string r.pl)) (i * 3 + 2) (.int .i64 r.t)) (fun j _ => ?_)
    by_cases h2 : j = i * 3 + 2
    · subst h2; rw [if_pos rfl, rtCell_2, upd_at]
    rw [if_neg h2]
    by_cases h1 : j = i * 3 + 1
    · subst h1; rw [if_pos rfl, rtCell_1, upd_at]
    rw [if_neg h1]
    by_cases h0 : j = i * 3
    · subst h0; rw [if_pos rfl, rtCell_0, upd_at]
    rw [if_neg h0]
    have hk : j / 3 ≠ i := by omega
    unfold rtCell
    rw [upd_ne _ _ _ hk]
  · by_cases e : k = i
    · subst e; rw [upd_at]; exact rt_kept h (set3_kept _ _ _ _ _ _) hr
    · rw [upd_ne _ _ _ e]; exact rt_kept h (set3_kept _ _ _ _ _ _) (h.2 k hk)
/-- Two routes change places. -/
theorem HeapAt.swp {w : World} {base g n cap : Nat} {H : Nat → Rt} (h : HeapAt w base g n cap H) {i j : Nat} (hi : i < n) (hj : j < n) :
    HeapAt (set3 (set3 w g (i * 3) (H j).v (.string (H j).pl) (.int .i64 (H j).t)) g (j * 3) (H i).v (.string (H i).pl) (.int .i64 (H i).t)) base g n cap (swp H i j) := by
  unfold Go.Proofs.Ythcjfoaejomfaaa.swp
  have h1 := h.upd i (h.2 j hj)
  exact h1.upd j (rt_kept h (set3_kept _ _ _ _ _ _) (h.2 i hi))

end Go.Proofs.Ythcjfoaejomfaaa

namespace Go.Proofs.Ythcjfoaejomfaaa
open Go.RowKit

def ids (S : Nat → Sail) (p : List Nat) : List Int := p.map (fun k => (S k).id)
theorem ids_snoc (S : Nat → Sail) (p : List Nat) (k : Nat) : ids S (p ++ [k]) = ids S p ++ [(S k).id] := by simp [ids]
theorem ids_length (S : Nat → Sail) (p : List Nat) : (ids S p).length = p.length := by simp [ids]
/-- The Ids rise. -/
def Rising (N : Nat) (S : Nat → Sail) : Prop := ∀ i j, i < j → j < N → (S i).id < (S j).id
theorem rising_of {N : Nat} {S : Nat → Sail} (h : GoodTab N S) : Rising N S := by
  intro i j hij
  induction j with
  | zero => omega
  | succ j ih =>
    intro hj
    have h1 := (h.2 (j + 1) hj).2 (by omega)
    rw [Nat.add_sub_cancel] at h1
    by_cases e : i = j
    · subst e; exact h1
    · have := ih (by omega) (by omega); omega
theorem lex_ids {N : Nat} {S : Nat → Sail} (hr : Rising N S) : ∀ {p q : List Nat}, (∀ k ∈ p, k < N) → (∀ k ∈ q, k < N) → lexLt p q → lexI (ids S p) (ids S q)
  | _, [], _, _, h => absurd h (lexLt_nil _)
  | [], _ :: _, _, _, _ => trivial
  | a :: p, b :: q, hp, hq, h => by
    rcases h with h | ⟨rfl, h⟩
    · exact .inl (hr a b h (hq b (by simp)))
    · exact .inr ⟨rfl, lex_ids hr (fun k hk => hp k (by simp [hk])) (fun k hk => hq k (by simp [hk])) h⟩
theorem ids_inj {N : Nat} {S : Nat → Sail} (hr : Rising N S) : ∀ {p q : List Nat}, (∀ k ∈ p, k < N) → (∀ k ∈ q, k < N) → ids S p = ids S q → p = q
  | [], [], _, _, _ => rfl
  | [], _ :: _, _, _, h => by simp [ids] at h
  | _ :: _, [], _, _, h => by simp [ids] at h
  | a :: p, b :: q, hp, hq, h => by
    simp only [ids, List.map_cons, List.cons.injEq] at h
    have ha := hp a (by simp)
    have hb := hq b (by simp)
    have e : a = b := by
      by_cases h1 : a < b
      · have := hr a b h1 hb; omega
      · by_cases h2 : b < a
        · have := hr b a h2 ha; omega
        · omega
    rw [e, ids_inj hr (fun k hk => hp k (by simp [hk])) (fun k hk => hq k (by simp [hk])) h.2]
theorem path_lt {N : Nat} {S : Nat → Sail} {fr : ByteArray} {t0 : Int} {p : List Nat} (h : Path N S fr t0 p) : ∀ k ∈ p, k < N := by
  induction h with
  | nil => intro k hk; cases hk
  | snoc _ hk _ _ ih =>
    intro k h
    rcases List.mem_append.1 h with h | h
    · exact ih k h
    · simp at h; omega

section
variable {N : Nat} {S : Nat → Sail} {fr : ByteArray} {t0 : Int}
/-- The route r is the way p. -/
def Is (N : Nat) (S : Nat → Sail) (fr : ByteArray) (t0 : Int) (r : Rt) (p : List Nat) : Prop :=
  Path N S fr t0 p ∧ p.length ≤ 3 ∧ r.ls = ids S p ∧ r.pl = placeOf S fr p ∧ r.t = timeOf S t0 p
theorem bef_of (hr : Rising N S) {r r' : Rt} {p q : List Nat} (h1 : Is N S fr t0 r p) (h2 : Is N S fr t0 r' q) (h : Before S t0 p q) : RBefR r r' := by
  unfold RBefR RBef
  rw [h1.2.2.1, h1.2.2.2.2, h2.2.2.1, h2.2.2.2.2, ids_length, ids_length]
  rcases h with h | ⟨e, h | ⟨e2, h⟩⟩
  · exact .inl h
  · exact .inr ⟨e, .inl h⟩
  · exact .inr ⟨e, .inr ⟨e2, lex_ids hr (path_lt h1.1) (path_lt h2.1) h⟩⟩
/-- What is open in the search. -/
structure SearchH (N : Nat) (S : Nat → Sail) (fr : ByteArray) (t0 : Int) (tt : ByteArray) (n : Nat) (H : Nat → Rt) : Prop where
  is : ∀ i, i < n → ∃ p, Is N S fr t0 (H i) p
  all : ∀ q, Goal N S fr t0 tt q → ∃ i p r, i < n ∧ Is N S fr t0 (H i) p ∧ q = p ++ r
theorem searchH_end {tt : ByteArray} {H : Nat → Rt} (h : SearchH N S fr t0 tt 0 H) : ∀ q, ¬ Goal N S fr t0 tt q := by
  intro q hq
  obtain ⟨i, _, _, hi, _⟩ := h.all q hq
  omega
theorem searchH_found {tt : ByteArray} (hd : ∀ k, k < N → (S k).dep < (S k).arr) (hr : Rising N S) {n : Nat} {H : Nat → Rt} (h : SearchH N S fr t0 tt n H) (hh : Heap RBefR n H) {p : List Nat} (hp : Is N S fr t0 (H 0) p) (hpl : placeOf S fr p = tt) : Best N S fr t0 tt p := by
  refine ⟨⟨hp.1, hp.2.1, hpl⟩, fun q hq hbef => ?_⟩
  obtain ⟨i, a, r, hi, ha, rfl⟩ := h.all q hq
  have hroot := heap_root rbef_ord rbef_irrefl hh i hi
  by_cases e : r = []
  · subst e; rw [List.append_nil] at hbef; exact hroot (bef_of hr ha hp hbef)
  · exact hroot (bef_of hr ha hp (before_trans (.inl (hq.1.later hd e)) hbef))
theorem searchH_next {tt : ByteArray} (hr : Rising N S) {n m : Nat} {H H2 : Nat → Rt} (h : SearchH N S fr t0 tt (n + 1) H) {p : List Nat} (hp : Is N S fr t0 (H 0) p) (hpl : placeOf S fr p ≠ tt)
    (hold : ∀ i, i < n + 1 → H i = H 0 ∨ ∃ x, x < m ∧ H2 x = H i) (hnew : ∀ x, x < m → (∃ i, i < n + 1 ∧ H2 x = H i) ∨ ∃ k, Is N S fr t0 (H2 x) (p ++ [k]))
    (hall : p.length < 3 → ∀ k, Path N S fr t0 (p ++ [k]) → ∃ x, x < m ∧ Is N S fr t0 (H2 x) (p ++ [k])) : SearchH N S fr t0 tt m H2 := by
  refine ⟨fun x hx => ?_, fun q hq => ?_⟩
  · rcases hnew x hx with ⟨i, hi, e⟩ | ⟨k, hk⟩
    · rw [e]; exact h.is i hi
    · exact ⟨_, hk⟩
  · obtain ⟨i, a, r, hi, ha, rfl⟩ := h.all q hq
    rcases hold i hi with e | ⟨x, hx, e⟩
    · rw [e] at ha
      match r, hq with
      | [], hq =>
        rw [List.append_nil] at hq
        exact absurd (by rw [← hp.2.2.2.1, ha.2.2.2.1]; exact hq.2.2) hpl
      | k :: r, hq =>
        -- the way a and the way p have the same Ids, place and time
        have e2 : a ++ k :: r = (a ++ [k]) ++ r := by simp
        have hlen : a.length < 3 := by have := hq.2.1; simp at this; omega
        have hpa : p = a := by
          have hids : ids S p = ids S a := by rw [← hp.2.2.1, ha.2.2.1]
          exact ids_inj hr (path_lt hp.1) (path_lt ha.1) hids
        subst hpa
        have hpk : Path N S fr t0 (p ++ [k]) := by have := hq.1; rw [e2] at this; exact this.pre
        obtain ⟨x, hx, hi2⟩ := hall hlen k hpk
        exact ⟨x, p ++ [k], r, hx, hi2, e2⟩
    · exact ⟨x, a, r, hx, by rw [e]; exact ha, rfl⟩
end

/-- How much a route weighs in the search. -/
def wt (r : Rt) : Nat := 7 ^ (3 - r.ls.length)
theorem wt_pos (r : Rt) : 1 ≤ wt r := Nat.one_le_pow _ _ (by decide)
theorem tot_ge {α : Type} (f : α → Nat) (H : Nat → α) (hf : ∀ a, 1 ≤ f a) : ∀ n, n ≤ tot f H n
  | 0 => Nat.zero_le _
  | n + 1 => by unfold tot; have := tot_ge f H hf n; have := hf (H n); omega
theorem tot_has {α : Type} {Q : α → Prop} {H : Nat → α} {n : Nat} : 0 < tot (fun a => @ite Nat (Q a) (Classical.propDecidable _) 1 0) H n ↔ ∃ i, i < n ∧ Q (H i) := by
  constructor
  · intro h
    obtain ⟨i, hi, h2⟩ := tot_mem _ H h
    refine ⟨i, hi, ?_⟩
    by_cases hq : Q (H i)
    · exact hq
    · simp [hq] at h2
  · rintro ⟨i, hi, hq⟩
    have := tot_pos (fun a => @ite Nat (Q a) (Classical.propDecidable _) 1 0) H hi
    simp only [hq, if_true] at this
    omega
theorem pop_old {n : Nat} {H H' : Nat → Rt} (h : ∀ f, tot f H' n + f (H 0) = tot f H (n + 1)) : ∀ i, i < n + 1 → H i = H 0 ∨ ∃ x, x < n ∧ H' x = H i := by
  intro i hi
  by_cases e : H i = H 0
  · exact .inl e
  · have h1 := h (fun a => @ite Nat (a = H i) (Classical.propDecidable _) 1 0)
    have h2 := (tot_has (Q := fun a => a = H i) (H := H) (n := n + 1)).2 ⟨i, hi, rfl⟩
    simp only [show ¬ (H 0 = H i) from fun h => e h.symm, if_false, Nat.add_zero] at h1
    rw [← h1] at h2
    obtain ⟨x, hx, hq⟩ := tot_has.1 h2
    exact .inr ⟨x, hx, hq⟩
theorem pop_new {n : Nat} {H H' : Nat → Rt} (h : ∀ f, tot f H' n + f (H 0) = tot f H (n + 1)) : ∀ x, x < n → ∃ i, i < n + 1 ∧ H i = H' x := by
  intro x hx
  have h1 := h (fun a => @ite Nat (a = H' x) (Classical.propDecidable _) 1 0)
  have h2 := (tot_has (Q := fun a => a = H' x) (H := H') (n := n)).2 ⟨x, hx, rfl⟩
  have h3 : 0 < tot (fun a => @ite Nat (a = H' x) (Classical.propDecidable _) 1 0) H (n + 1) := by omega
  exact tot_has.1 h3
theorem push_old {n : Nat} {H H' : Nat → Rt} {r : Rt} (h : ∀ f, tot f H' (n + 1) = tot f H n + f r) : ∀ i, i < n → ∃ x, x < n + 1 ∧ H' x = H i := by
  intro i hi
  have h1 := h (fun a => @ite Nat (a = H i) (Classical.propDecidable _) 1 0)
  have h2 := (tot_has (Q := fun a => a = H i) (H := H) (n := n)).2 ⟨i, hi, rfl⟩
  exact (tot_has (Q := fun a => a = H i) (H := H') (n := n + 1)).1 (by omega)
theorem push_has {n : Nat} {H H' : Nat → Rt} {r : Rt} (h : ∀ f, tot f H' (n + 1) = tot f H n + f r) : ∃ x, x < n + 1 ∧ H' x = r := by
  have h1 := h (fun a => @ite Nat (a = r) (Classical.propDecidable _) 1 0)
  simp only [if_true] at h1
  exact (tot_has (Q := fun a => a = r) (H := H') (n := n + 1)).1 (by omega)
theorem push_new {n : Nat} {H H' : Nat → Rt} {r : Rt} (h : ∀ f, tot f H' (n + 1) = tot f H n + f r) : ∀ x, x < n + 1 → H' x = r ∨ ∃ i, i < n ∧ H' x = H i := by
  intro x hx
  by_cases e : H' x = r
  · exact .inl e
  · have h1 := h (fun a => @ite Nat (a = H' x) (Classical.propDecidable _) 1 0)
    have h2 := (tot_has (Q := fun a => a = H' x) (H := H') (n := n + 1)).2 ⟨x, hx, rfl⟩
    simp only [show ¬ (r = H' x) from fun h => e h.symm, if_false, Nat.add_zero] at h1
    rw [h1] at h2
    obtain ⟨i, hi, hq⟩ := tot_has.1 h2
    exact .inr ⟨i, hi, hq.symm⟩

end Go.Proofs.Ythcjfoaejomfaaa

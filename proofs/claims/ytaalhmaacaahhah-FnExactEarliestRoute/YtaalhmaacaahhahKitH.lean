/-
  OWN TEXT: heaps of routes in memory; the order of routes.
-/
import Derived.Test.YtaalhmaacaahhahCmpI
import Derived.Test.YtaalhmaacaahhahKitG
namespace Go.Proofs.Ytaalhmaacaahhah
open Go.RowKit

theorem lexI_irrefl : ∀ p, ¬ lexI p p
  | [], h => by simp [lexI] at h
  | a :: p, h => by rcases h with h | ⟨_, h⟩
                    · omega
                    · exact lexI_irrefl p h
theorem lexI_nil (p : List Int) : ¬ lexI p [] := by cases p <;> simp [lexI]
theorem lexI_trans : ∀ {p q r}, lexI p q → lexI q r → lexI p r
  | _, [], _, h, _ => absurd h (lexI_nil _)
  | _, _ :: _, [], _, h => absurd h (lexI_nil _)
  | [], _ :: _, _ :: _, _, _ => trivial
  | a :: p, b :: q, c :: r, h1, h2 => by
    rcases h1 with h1 | ⟨e1, h1⟩
    · rcases h2 with h2 | ⟨e2, h2⟩
      · exact .inl (by omega)
      · exact .inl (by omega)
    · rcases h2 with h2 | ⟨e2, h2⟩
      · exact .inl (by omega)
      · exact .inr ⟨by omega, lexI_trans h1 h2⟩
theorem lexI_total : ∀ p q, lexI p q ∨ p = q ∨ lexI q p
  | [], [] => .inr (.inl rfl)
  | [], _ :: _ => .inl trivial
  | _ :: _, [] => .inr (.inr trivial)
  | a :: p, b :: q => by
    by_cases h : a < b
    · exact .inl (.inl h)
    · by_cases h2 : b < a
      · exact .inr (.inr (.inl h2))
      · have e : a = b := by omega
        subst e
        rcases lexI_total p q with h | h | h
        · exact .inl (.inr ⟨rfl, h⟩)
        · exact .inr (.inl (by rw [h]))
        · exact .inr (.inr (.inr ⟨rfl, h⟩))
def RBefR (a b : Rt) : Prop := RBef a.t a.ls b.t b.ls
theorem rbef_irrefl (a : Rt) : ¬ RBefR a a := by
  rintro (h | ⟨_, h | ⟨_, h⟩⟩)
  · omega
  · omega
  · exact lexI_irrefl _ h
theorem rbef_trans {a b c : Rt} (h1 : RBefR a b) (h2 : RBefR b c) : RBefR a c := by
  rcases h1 with h1 | ⟨e1, h1⟩
  · rcases h2 with h2 | ⟨e2, _⟩
    · exact .inl (by omega)
    · exact .inl (by omega)
  · rcases h2 with h2 | ⟨e2, h2⟩
    · exact .inl (by omega)
    · refine .inr ⟨by omega, ?_⟩
      rcases h1 with h1 | ⟨l1, h1⟩
      · rcases h2 with h2 | ⟨l2, _⟩
        · exact .inl (by omega)
        · exact .inl (by omega)
      · rcases h2 with h2 | ⟨l2, h2⟩
        · exact .inl (by omega)
        · exact .inr ⟨by omega, lexI_trans h1 h2⟩
theorem rbef_total (a b : Rt) : RBefR a b ∨ (a.t = b.t ∧ a.ls = b.ls) ∨ RBefR b a := by
  by_cases h1 : a.t < b.t
  · exact .inl (.inl h1)
  by_cases h2 : b.t < a.t
  · exact .inr (.inr (.inl h2))
  have e : a.t = b.t := by omega
  by_cases h3 : a.ls.length < b.ls.length
  · exact .inl (.inr ⟨e, .inl h3⟩)
  by_cases h4 : b.ls.length < a.ls.length
  · exact .inr (.inr (.inr ⟨e.symm, .inl h4⟩))
  have e2 : a.ls.length = b.ls.length := by omega
  rcases lexI_total a.ls b.ls with h | h | h
  · exact .inl (.inr ⟨e, .inr ⟨e2, h⟩⟩)
  · exact .inr (.inl ⟨e, h⟩)
  · exact .inr (.inr (.inr ⟨e.symm, .inr ⟨e2.symm, h⟩⟩))
theorem rbef_ord : Ord3 RBefR := by
  refine ⟨fun a b h1 h2 => rbef_irrefl a (rbef_trans h1 h2), fun a b c h1 h2 => rbef_trans h1 h2, fun a b c h1 h2 h3 => ?_⟩
  rcases rbef_total a b with h | ⟨e1, e2⟩ | h
  · exact h1 h
  · refine h2 ?_
    unfold RBefR at h3 ⊢
    rw [e1, e2] at h3
    exact h3
  · exact h2 (rbef_trans h h3)

/-- A route in memory. -/
def RtOk (w : World) (base : Nat) (r : Rt) : Prop := w.ownsRow base 3 1 r.v r.ls.length (cellsI r.ls) ∧ r.ls.length ≤ 3 ∧ 0 ≤ r.t ∧ r.t ≤ 10000
theorem RtOk.below {w w' : World} {base : Nat} {r : Rt} (h : RtOk w base r) (hb : Below w.heap.size w w') : RtOk w' base r := ⟨own_below hb h.1, h.2⟩
theorem RtOk.form {w : World} {base : Nat} {r : Rt} (h : RtOk w base r) : ∃ la lc, r.v = .slice la r.ls.length lc ∧ IntsAt w la r.ls.length (getI r.ls) ∧ (la = none → r.ls.length = 0 ∧ lc = 0) := by
  obtain ⟨la, lc, e, _, _, hn⟩ := own_form h.1
  refine ⟨la, lc, e, ?_, hn⟩
  have := h.1
  rw [e] at this
  exact own_legs rfl this
theorem comesFirst_rt (a b : Rt) (w : World) {b1 b2 : Nat} (ha : RtOk w b1 a) (hb : RtOk w b2 b) :
    Calls Try.prog 73 #[.agg #[a.v, .string a.pl, .int .i64 a.t], .agg #[b.v, .string b.pl, .int .i64 b.t]] w fun e w' => SaysIf (RBefR a b) e ∧ Below w.heap.size w w' := by
  obtain ⟨la, lc, e1, h1, _⟩ := ha.form
  obtain ⟨lb, mc, e2, h2, _⟩ := hb.form
  rw [e1, e2]
  have := ha.2
  have := hb.2
  exact comesFirst_any la lb _ _ lc mc a.ls b.ls a.pl b.pl a.t b.t w rfl rfl (by omega) (by omega) h1 h2 ha.2.2.1 ha.2.2.2 hb.2.2.1 hb.2.2.2

def rtCell (H : Nat → Rt) (j : Nat) : Value := if j % 3 = 0 then (H (j / 3)).v else if j % 3 = 1 then .string (H (j / 3)).pl else .int .i64 (H (j / 3)).t
theorem rtCell_0 (H : Nat → Rt) (k : Nat) : rtCell H (k * 3) = (H k).v := by
  unfold rtCell; rw [if_pos (by omega), show k * 3 / 3 = k by omega]
theorem rtCell_1 (H : Nat → Rt) (k : Nat) : rtCell H (k * 3 + 1) = .string (H k).pl := by
  unfold rtCell; rw [if_neg (by omega), if_pos (by omega), show (k * 3 + 1) / 3 = k by omega]
theorem rtCell_2 (H : Nat → Rt) (k : Nat) : rtCell H (k * 3 + 2) = .int .i64 (H k).t := by
  unfold rtCell; rw [if_neg (by omega), if_neg (by omega), show (k * 3 + 2) / 3 = k by omega]
def rtList (H : Nat → Rt) (n : Nat) : List Value := (List.range (n * 3)).map (rtCell H)

/-- The heap at block g: n routes. -/
def HeapAt (w : World) (base g n cap : Nat) (H : Nat → Rt) : Prop :=
  w.ownsRow base 68 3 (.slice (some ⟨g, 0, none⟩) n cap) n (rtList H n) ∧ ∀ i, i < n → RtOk w base (H i)
theorem HeapAt.below {w w' : World} {base g n cap : Nat} {H : Nat → Rt} (h : HeapAt w base g n cap H) (hb : Below w.heap.size w w') : HeapAt w' base g n cap H :=
  ⟨own_below hb h.1, fun i hi => (h.2 i hi).below hb⟩
theorem HeapAt.lt {w : World} {base g n cap : Nat} {H : Nat → Rt} (h : HeapAt w base g n cap H) : g < w.heap.size ∧ base ≤ g ∧ n ≤ cap := by
  rcases h.1.2 with ⟨e, _⟩ | ⟨g', cap', cur, e, hb, hg, hc, _⟩
  · cases e
  · simp only [Value.slice.injEq, Option.some.injEq, Addr.mk.injEq, and_true, true_and] at e
    obtain ⟨rfl, rfl⟩ := e
    exact ⟨blk_lt hg, hb, hc⟩
theorem HeapAt.cells {w : World} {base g n cap : Nat} {H : Nat → Rt} (h : HeapAt w base g n cap H) {i : Nat} (hi : i < n) :
    w.cell? ⟨g, i * 3, none⟩ = some (H i).v ∧ w.cell? ⟨g, i * 3 + 1, none⟩ = some (.string (H i).pl) ∧ w.cell? ⟨g, i * 3 + 2, none⟩ = some (.int .i64 (H i).t) := by
  refine ⟨?_, ?_, ?_⟩
  · rw [own_cell h.1 (i * 3) (by omega) rfl, rtCell_0]
  · rw [own_cell h.1 (i * 3 + 1) (by omega) rfl, rtCell_1]
  · rw [own_cell h.1 (i * 3 + 2) (by omega) rfl, rtCell_2]
theorem HeapAt.free {w : World} {base g n cap : Nat} {H : Nat → Rt} (h : HeapAt w base g n cap H) (i : Nat) : w.frozen? ⟨g, i, none⟩ = false := h.1.frozenAt i
theorem rt_kept {w w' : World} {base g n cap : Nat} {H : Nat → Rt} {r : Rt} (h : HeapAt w base g n cap H) (hk : Kept w w' (fun b => b = g)) (hr : RtOk w base r) : RtOk w' base r :=
  ⟨hk.own hr.1 (fun g' hg' e => own_apart hr.1 h.1 (by decide) g' hg' (by simp [Value.ownBlock, e])), hr.2⟩
def set3 (w : World) (g o : Nat) (v0 v1 v2 : Value) : World := ((w.setCell ⟨g, o, none⟩ v0).setCell ⟨g, o + 1, none⟩ v1).setCell ⟨g, o + 2, none⟩ v2
theorem set3_kept (w : World) (g o : Nat) (v0 v1 v2 : Value) : Kept w (set3 w g o v0 v1 v2) (fun b => b = g) :=
  (((Kept.refl w (fun b => b = g)).set (a := ⟨g, o, none⟩) rfl v0).set (a := ⟨g, o + 1, none⟩) rfl v1).set (a := ⟨g, o + 2, none⟩) rfl v2
/-- A route is stored into the heap. -/
theorem HeapAt.upd {w : World} {base g n cap : Nat} {H : Nat → Rt} (h : HeapAt w base g n cap H) (i : Nat) {r : Rt} (hr : RtOk w base r) :
    HeapAt (set3 w g (i * 3) r.v (.string r.pl) (.int .i64 r.t)) base g n cap (upd H i r) := by
  refine ⟨?_, fun k hk => ?_⟩
  · refine own_congr (own_store (own_store (own_store h.1 (i * 3) r.v) (i * 3 + 1) (.string r.pl)) (i * 3 + 2) (.int .i64 r.t)) (fun j _ => ?_)
    by_cases h2 : j = i * 3 + 2
    · subst h2; rw [if_pos rfl, rtCell_2, upd_at]
    rw [if_neg h2]
    by_cases h1 : j = i * 3 + 1
    · subst h1; rw [if_pos rfl, rtCell_1, upd_at]
    rw [if_neg h1]
    by_cases h0 : j = i * 3
    · subst h0; rw [if_pos rfl, rtCell_0, upd_at]
    rw [if_neg h0]
    have hk : j / 3 ≠ i := by omega
    unfold rtCell
    rw [upd_ne _ _ _ hk]
  · by_cases e : k = i
    · subst e; rw [upd_at]; exact rt_kept h (set3_kept _ _ _ _ _ _) hr
    · rw [upd_ne _ _ _ e]; exact rt_kept h (set3_kept _ _ _ _ _ _) (h.2 k hk)
/-- Two routes change places. -/
theorem HeapAt.swp {w : World} {base g n cap : Nat} {H : Nat → Rt} (h : HeapAt w base g n cap H) {i j : Nat} (hi : i < n) (hj : j < n) :
    HeapAt (set3 (set3 w g (i * 3) (H j).v (.string (H j).pl) (.int .i64 (H j).t)) g (j * 3) (H i).v (.string (H i).pl) (.int .i64 (H i).t)) base g n cap (swp H i j) := by
  unfold Go.Proofs.Ytaalhmaacaahhah.swp
  have h1 := h.upd i (h.2 j hj)
  exact h1.upd j (rt_kept h (set3_kept _ _ _ _ _ _) (h.2 i hi))

end Go.Proofs.Ytaalhmaacaahhah

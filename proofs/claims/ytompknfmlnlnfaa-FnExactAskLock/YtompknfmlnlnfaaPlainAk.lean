/-
  OWN TEXT: plain words for asking for a lock. No theorem of the program.
-/
import Derived.Test.YtompknfmlnlnfaaKitLv
import Derived.Test.YtompknfmlnlnfaaFindI
import Derived.Test.YtompknfmlnlnfaaWaitB
import Derived.Test.YtompknfmlnlnfaaKeysB
namespace Go.Proofs.Ytompknfmlnlnfaa
open Go.RowKit

/-- f with y laid in at p. -/
def insF {α : Type} (f : Nat → α) (p : Nat) (y : α) (i : Nat) : α := if i < p then f i else if i = p then y else f (i - 1)
theorem insF_lt {α : Type} {f : Nat → α} {p : Nat} {y : α} {i : Nat} (h : i < p) : insF f p y i = f i := if_pos h
theorem insF_at {α : Type} (f : Nat → α) (p : Nat) (y : α) : insF f p y p = y := by unfold insF; rw [if_neg (Nat.lt_irrefl _), if_pos rfl]
theorem insF_gt {α : Type} {f : Nat → α} {p : Nat} {y : α} {i : Nat} (h : p < i) : insF f p y i = f (i - 1) := by unfold insF; rw [if_neg (by omega), if_neg (by omega)]
/-- f with y in place of p. -/
def setF {α : Type} (f : Nat → α) (p : Nat) (y : α) (i : Nat) : α := if i = p then y else f i
theorem setF_at {α : Type} (f : Nat → α) (p : Nat) (y : α) : setF f p y p = y := if_pos rfl
theorem setF_ne {α : Type} {f : Nat → α} {p : Nat} {y : α} {i : Nat} (h : i ≠ p) : setF f p y i = f i := if_neg h
theorem lockCell_ins (K : Nat → Int) (hs qs : Nat → Value) (p : Nat) (key : Int) (hv qv : Value) (j : Nat) (h : j < p * 3) : lockCell (insF K p key) (insF hs p hv) (insF qs p qv) j = lockCell K hs qs j := by
  unfold lockCell
  rw [insF_lt (show j / 3 < p by omega), insF_lt (show j / 3 < p by omega), insF_lt (show j / 3 < p by omega)]
theorem lockCell_past (K : Nat → Int) (hs qs : Nat → Value) (p : Nat) (key : Int) (hv qv : Value) (j : Nat) (h : (p + 1) * 3 ≤ j) : lockCell (insF K p key) (insF hs p hv) (insF qs p qv) j = lockCell K hs qs (j - 3) := by
  unfold lockCell
  rw [insF_gt (show p < j / 3 by omega), insF_gt (show p < j / 3 by omega), insF_gt (show p < j / 3 by omega), show (j - 3) % 3 = j % 3 by omega, show (j - 3) / 3 = j / 3 - 1 by omega]
/-- The row with one more lock. -/
theorem lockRow_ins (K : Nat → Int) (hs qs : Nat → Value) (N p : Nat) (key : Int) (hv qv : Value) (hp : p ≤ N) :
    (List.range ((N + 1) * 3)).map (lockCell (insF K p key) (insF hs p hv) (insF qs p qv)) = ((List.range (N * 3)).map (lockCell K hs qs)).take (p * 3) ++ [.int .i64 key, hv, qv] ++ ((List.range (N * 3)).map (lockCell K hs qs)).drop (p * 3) := by
  apply List.ext_getElem?
  intro j
  have hlt : (((List.range (N * 3)).map (lockCell K hs qs)).take (p * 3)).length = p * 3 := by simp; omega
  by_cases h1 : j < p * 3
  · rw [List.append_assoc, List.getElem?_append_left (by rw [hlt]; exact h1), List.getElem?_take, if_pos h1, List.getElem?_map, List.getElem?_map, List.getElem?_range (by omega), List.getElem?_range (by omega)]
    simp only [Option.map_some]
    rw [lockCell_ins K hs qs p key hv qv j h1]
  · by_cases h2 : j < p * 3 + 3
    · rw [List.append_assoc, List.getElem?_append_right (by rw [hlt]; omega), hlt, List.getElem?_append_left (by simp; omega), List.getElem?_map, List.getElem?_range (by omega)]
      simp only [Option.map_some]
      have h3 : j = p * 3 ∨ j = p * 3 + 1 ∨ j = p * 3 + 2 := by omega
      rcases h3 with rfl | rfl | rfl
      · rw [lockCell_0, insF_at, Nat.sub_self]; rfl
      · rw [lockCell_1, insF_at, show p * 3 + 1 - p * 3 = 1 by omega]; rfl
      · rw [lockCell_2, insF_at, show p * 3 + 2 - p * 3 = 2 by omega]; rfl
    · rw [List.getElem?_append_right (by rw [List.length_append, hlt]; simp; omega), List.length_append, hlt, List.getElem?_drop, List.getElem?_map, List.getElem?_map]
      simp only [List.length_cons, List.length_nil]
      rw [show p * 3 + (j - (p * 3 + (0 + 1 + 1 + 1))) = j - 3 by omega]
      by_cases h4 : j < (N + 1) * 3
      · rw [List.getElem?_range h4, List.getElem?_range (by omega)]
        simp only [Option.map_some]
        rw [lockCell_past K hs qs p key hv qv j (by omega)]
      · rw [List.getElem?_eq_none (by simpa using h4), List.getElem?_eq_none (by simp; omega)]
        rfl

theorem isAt_ex {K : Nat → Int} (key : Int) : ∀ N, KeysUp N K → ∃ p, IsAt N K key p := by
  intro N
  induction N with
  | zero => intro _; exact ⟨0, Nat.le_refl _, fun j hj => by omega, fun j _ hj => by omega⟩
  | succ N ih =>
    intro h
    obtain ⟨p, h1, h2, h3⟩ := ih ⟨fun i hi => h.1 i (by omega), fun i j h4 h5 => h.2 i j h4 (by omega)⟩
    by_cases c : p = N ∧ K N < key
    · refine ⟨N + 1, Nat.le_refl _, fun j hj => ?_, fun j h4 h5 => by omega⟩
      by_cases e : j = N
      · subst e; exact c.2
      · exact h2 j (by omega)
    · refine ⟨p, by omega, h2, fun j h4 h5 => ?_⟩
      by_cases e : j = N
      · subst e
        by_cases e2 : p = j
        · subst e2
          have : ¬ K p < key := fun h6 => c ⟨rfl, h6⟩
          omega
        · have h6 := h3 p (Nat.le_refl _) (by omega)
          have h7 := h.2 p j (by omega) h5
          omega
      · exact h3 j h4 (by omega)
/-- x holds a lock whose key is not below. -/
def HoldsOn (N : Nat) (K : Nat → Int) (H : Nat → Line) (x key : Int) : Prop := ∃ i, i < N ∧ key ≤ K i ∧ inLine (H i) x
theorem keysTo_last {K : Nat → Int} {H : Nat → Line} {x : Int} : ∀ k, (keysTo K H x k = [] ∧ ∀ i, i < k → ¬ inLine (H i) x) ∨ (0 < (keysTo K H x k).length ∧ ∃ i, i < k ∧ inLine (H i) x ∧ getI (keysTo K H x k) ((keysTo K H x k).length - 1) = K i ∧ ∀ j, i < j → j < k → ¬ inLine (H j) x) := by
  intro k
  induction k with
  | zero => exact .inl ⟨rfl, fun i hi => by omega⟩
  | succ k ih =>
    by_cases h : inLine (H k) x
    · rw [keysTo_yes h]
      refine .inr ⟨by simp, k, by omega, h, ?_, fun j h1 h2 => by omega⟩
      rw [List.length_append]
      simp [getI]
    · rw [keysTo_no h]
      rcases ih with ⟨h1, h2⟩ | ⟨h0, i, h1, h2, h3, h4⟩
      · exact .inl ⟨h1, fun i hi => by
          by_cases e : i = k
          · subst e; exact h
          · exact h2 i (by omega)⟩
      · exact .inr ⟨h0, i, by omega, h2, h3, fun j h5 h6 => by
          by_cases e : j = k
          · subst e; exact h
          · exact h4 j h5 (by omega)⟩
/-- The code of an ask. -/
def AskCode (N : Nat) (K : Nat → Int) (H Q : Nat → Line) (x key : Int) (code : Int) : Prop :=
  (¬ (isTask x ∧ isKeyI key) → code = 2) ∧ (isTask x ∧ isKeyI key → ¬ noWait N Q x → code = 4) ∧ (isTask x ∧ isKeyI key → noWait N Q x → HoldsOn N K H x key → code = 3) ∧ (isTask x ∧ isKeyI key → noWait N Q x → ¬ HoldsOn N K H x key → code = 0)
theorem askCode_zero {N : Nat} {K : Nat → Int} {H Q : Nat → Line} {x key code : Int} (h : AskCode N K H Q x key code) : code = 0 ↔ (isTask x ∧ isKeyI key) ∧ noWait N Q x ∧ ¬ HoldsOn N K H x key := by
  by_cases h1 : isTask x ∧ isKeyI key
  · by_cases h2 : noWait N Q x
    · by_cases h3 : HoldsOn N K H x key
      · have := h.2.2.1 h1 h2 h3; subst this; simp [h3]
      · have := h.2.2.2 h1 h2 h3; subst this; simp [h1, h2, h3]
    · have := h.2.1 h1 h2; subst this; simp [h2]
  · have := h.1 h1; subst this; simp [h1]
theorem askCode_one {N : Nat} {K : Nat → Int} {H Q : Nat → Line} {x key code code' : Int} (h : AskCode N K H Q x key code) (h' : AskCode N K H Q x key code') : code' = code := by
  by_cases h1 : isTask x ∧ isKeyI key
  · by_cases h2 : noWait N Q x
    · by_cases h3 : HoldsOn N K H x key
      · rw [h.2.2.1 h1 h2 h3, h'.2.2.1 h1 h2 h3]
      · rw [h.2.2.2 h1 h2 h3, h'.2.2.2 h1 h2 h3]
    · rw [h.2.1 h1 h2, h'.2.1 h1 h2]
  · rw [h.1 h1, h'.1 h1]
/-- What is put at p, and whether it is held. -/
inductive PutIs (N : Nat) (K : Nat → Int) (H Q : Nat → Line) (x key : Int) (s : Bool) (p : Nat) : List LockW → Bool → Prop
  | fresh (h : ¬ (p < N ∧ K p = key)) : PutIs N K H Q x key s p (locksP (N + 1) (insF K p key) (insF H p (lineOf [(x, s)])) (insF Q p (lineOf []))) true
  | held (h : p < N ∧ K p = key) (hq : (Q p).n = 0) (hm : mayB (H p) s = true) : PutIs N K H Q x key s p (locksP N K (setF H p (lineOf (insP (asksTo (H p) (H p).n) (x, s)))) Q) true
  | queue (h : p < N ∧ K p = key) (hn : ¬ ((Q p).n = 0 ∧ mayB (H p) s = true)) : PutIs N K H Q x key s p (locksP N K H (setF Q p (lineOf (asksTo (Q p) (Q p).n ++ [(x, s)])))) false
theorem putIs_one {N : Nat} {K : Nat → Int} {H Q : Nat → Line} {x key : Int} {s : Bool} {p : Nat} {ls ls' : List LockW} {ok ok' : Bool} (h : PutIs N K H Q x key s p ls ok) (h' : PutIs N K H Q x key s p ls' ok') : ls' = ls ∧ ok' = ok := by
  cases h with
  | fresh h1 =>
    cases h' with
    | fresh => exact ⟨rfl, rfl⟩
    | held h2 => exact absurd h2 h1
    | queue h2 => exact absurd h2 h1
  | held h1 hq hm =>
    cases h' with
    | fresh h2 => exact absurd h1 h2
    | held => exact ⟨rfl, rfl⟩
    | queue h2 hn => exact absurd ⟨hq, hm⟩ hn
  | queue h1 hn =>
    cases h' with
    | fresh h2 => exact absurd h1 h2
    | held h2 hq hm => exact absurd ⟨hq, hm⟩ hn
    | queue => exact ⟨rfl, rfl⟩
/-- No room for a key that is new. -/
def NoRoom (N : Nat) (K : Nat → Int) (x key : Int) (p : Nat) : Prop := (isTask x ∧ isKeyI key) ∧ ¬ (p < N ∧ K p = key) ∧ N = 60
/-- What AskLock answers. -/
def AskAns (N : Nat) (K : Nat → Int) (H Q : Nat → Line) (x key : Int) (s : Bool) (ls : List LockW) (ok : Bool) (code : Int) : Prop :=
  (¬ GoodL N K H Q → ls = [] ∧ ok = false ∧ code = 1) ∧
  (GoodL N K H Q → ∃ p, IsAt N K key p ∧ (NoRoom N K x key p → ls = [] ∧ ok = false ∧ code = 1) ∧ (¬ NoRoom N K x key p → AskCode N K H Q x key code ∧ (code ≠ 0 → ls = locksP N K H Q ∧ ok = false) ∧ (code = 0 → PutIs N K H Q x key s p ls ok)))
theorem askAns_one {N : Nat} {K : Nat → Int} {H Q : Nat → Line} {x key : Int} {s : Bool} {ls ls' : List LockW} {ok ok' : Bool} {code code' : Int} (h : AskAns N K H Q x key s ls ok code) (h' : AskAns N K H Q x key s ls' ok' code') : ls' = ls ∧ ok' = ok ∧ code' = code := by
  by_cases g : GoodL N K H Q
  · obtain ⟨p, hp, h1, h2⟩ := h.2 g
    obtain ⟨p', hp', h1', h2'⟩ := h'.2 g
    obtain rfl := isAt_one hp hp'
    by_cases r : NoRoom N K x key p
    · obtain ⟨rfl, rfl, rfl⟩ := h1 r
      obtain ⟨rfl, rfl, rfl⟩ := h1' r
      exact ⟨rfl, rfl, rfl⟩
    · obtain ⟨c1, d1, e1⟩ := h2 r
      obtain ⟨c2, d2, e2⟩ := h2' r
      obtain rfl := askCode_one c1 c2
      by_cases z : code' = 0
      · obtain ⟨rfl, rfl⟩ := putIs_one (e1 z) (e2 z)
        exact ⟨rfl, rfl, rfl⟩
      · obtain ⟨rfl, rfl⟩ := d1 z
        obtain ⟨rfl, rfl⟩ := d2 z
        exact ⟨rfl, rfl, rfl⟩
  · obtain ⟨rfl, rfl, rfl⟩ := h.1 g
    obtain ⟨rfl, rfl, rfl⟩ := h'.1 g
    exact ⟨rfl, rfl, rfl⟩
theorem shortP {N : Nat} {K : Nat → Int} {H Q : Nat → Line} {B : Nat} (h : ShortTo N H Q B) : ShortL (locksP N K H Q) B := locksP_short h
theorem askAns_short {N : Nat} {K : Nat → Int} {H Q : Nat → Line} {x key : Int} {s : Bool} {ls : List LockW} {ok : Bool} {code : Int} (h : AskAns N K H Q x key s ls ok code) : ls.length ≤ 61 ∧ ShortL ls 24 := by
  by_cases g : GoodL N K H Q
  · have hs : ∀ i, i < N → (H i).n ≤ 12 ∧ (Q i).n ≤ 12 := fun i hi => by have := good_lines ((goodL_iff N K H Q).1 g) hi; omega
    have h60 := g.1
    obtain ⟨p, hp, h1, h2⟩ := h.2 g
    by_cases r : NoRoom N K x key p
    · obtain ⟨rfl, _, _⟩ := h1 r
      exact ⟨by simp, by intro a ha; simp at ha⟩
    · obtain ⟨_, d1, e1⟩ := h2 r
      by_cases z : code = 0
      · cases e1 z with
        | fresh h3 =>
          refine ⟨by simp [locksP]; omega, shortP (fun i hi => ?_)⟩
          rcases Nat.lt_trichotomy i p with e | e | e
          · rw [insF_lt e, insF_lt e]; have := hs i (by have := hp.1; omega); omega
          · subst e; rw [insF_at, insF_at]; simp [lineOf]
          · rw [insF_gt e, insF_gt e]; have := hs (i - 1) (by omega); omega
        | held h3 hq hm =>
          refine ⟨by simp [locksP]; omega, shortP (fun i hi => ?_)⟩
          by_cases e : i = p
          · subst e; rw [setF_at]; have := hs i hi; simp [lineOf, insP_length, asksTo_length]; omega
          · rw [setF_ne e]; have := hs i hi; omega
        | queue h3 hn =>
          refine ⟨by simp [locksP]; omega, shortP (fun i hi => ?_)⟩
          by_cases e : i = p
          · subst e; rw [setF_at]; have := hs i hi; simp [lineOf, asksTo_length]; omega
          · rw [setF_ne e]; have := hs i hi; omega
      · obtain ⟨rfl, _⟩ := d1 z
        exact ⟨by simp [locksP]; omega, shortP (fun i hi => by have := hs i hi; omega)⟩
  · obtain ⟨rfl, _⟩ := h.1 g
    exact ⟨by simp, by intro a ha; simp at ha⟩

end Go.Proofs.Ytompknfmlnlnfaa

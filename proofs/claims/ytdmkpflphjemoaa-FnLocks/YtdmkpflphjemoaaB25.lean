/-
  OWN TEXT: PlainAk, InsK.
-/
import Derived.Test.YtdmkpflphjemoaaB15
import Derived.Test.YtdmkpflphjemoaaB23
import Derived.Test.YtdmkpflphjemoaaB24
import Derived.Test.YtdmkpflphjemoaaB20
import Derived.Test.YtdmkpflphjemoaaB02
namespace Go.Proofs.Ytdmkpflphjemoaa
open Go.RowKit

/-- f with y laid in at p. -/
def insF {α : Type} (f : Nat → α) (p : Nat) (y : α) (i : Nat) : α := if i < p then f i else if i = p then y else f (i - 1)
theorem insF_lt {α : Type} {f : Nat → α} {p : Nat} {y : α} {i : Nat} (h : i < p) : insF f p y i = f i := if_pos h
theorem insF_at {α : Type} (f : Nat → α) (p : Nat) (y : α) : insF f p y p = y := by unfold insF; rw [if_neg (Nat.lt_irrefl _), if_pos rfl]
theorem insF_gt {α : Type} {f : Nat → α} {p : Nat} {y : α} {i : Nat} (h : p < i) : insF f p y i = f (i - 1) := by unfold insF; rw [if_neg (by omega), if_neg (by omega)]
/-- f with y in place of p. -/
def setF {α : Type} (f : Nat → α) (p : Nat) (y : α) (i : Nat) : α := if i = p then y else f i
theorem setF_at {α : Type} (f : Nat → α) (p : Nat) (y : α) : setF f p y p = y := if_pos rfl
theorem setF_ne {α : Type} {f : Nat → α} {p : Nat} {y : α} {i : Nat} (h : i ≠ p) : setF f p y i = f i := if_neg h
theorem lockCell_ins (K : Nat → Int) (hs qs : Nat → Value) (p : Nat) (key : Int) (hv qv : Value) (j : Nat) (h : j < p * 3) : lockCell (insF K p key) (insF hs p hv) (insF qs p qv) j = lockCell K hs qs j := by
  unfold lockCell
  rw [insF_lt (show j / 3 < p by omega), insF_lt (show j / 3 < p by omega), insF_lt (show j / 3 < p by omega)]
theorem lockCell_past (K : Nat → Int) (hs qs : Nat → Value) (p : Nat) (key : Int) (hv qv : Value) (j : Nat) (h : (p + 1) * 3 ≤ j) : lockCell (insF K p key) (insF hs p hv) (insF qs p qv) j = lockCell K hs qs (j - 3) := by
  unfold lockCell
  rw [insF_gt (show p < j / 3 by omega), insF_gt (show p < j / 3 by omega), insF_gt (show p < j / 3 by omega), show (j - 3) % 3 = j % 3 by omega, show (j - 3) / 3 = j / 3 - 1 by omega]
/-- The row with one more lock. -/
theorem lockRow_ins (K : Nat → Int) (hs qs : Nat → Value) (N p : Nat) (key : Int) (hv qv : Value) (hp : p ≤ N) :
    (List.range ((N + 1) * 3)).map (lockCell (insF K p key) (insF hs p hv) (insF qs p qv)) = ((List.range (N * 3)).map (lockCell K hs qs)).take (p * 3) ++ [.int .i64 key, hv, qv] ++ ((List.range (N * 3)).map (lockCell K hs qs)).drop (p * 3) := by
  apply List.ext_getElem?
  intro j
  have hlt : (((List.range (N * 3)).map (lockCell K hs qs)).take (p * 3)).length = p * 3 := by simp; omega
  by_cases h1 : j < p * 3
  · rw [List.append_assoc, List.getElem?_append_left (by rw [hlt]; exact h1), List.getElem?_take, if_pos h1, List.getElem?_map, List.getElem?_map, List.getElem?_range (by omega), List.getElem?_range (by omega)]
    simp only [Option.map_some]
    rw [lockCell_ins K hs qs p key hv qv j h1]
  · by_cases h2 : j < p * 3 + 3
    · rw [List.append_assoc, List.getElem?_append_right (by rw [hlt]; omega), hlt, List.getElem?_append_left (by simp; omega), List.getElem?_map, List.getElem?_range (by omega)]
      simp only [Option.map_some]
      have h3 : j = p * 3 ∨ j = p * 3 + 1 ∨ j = p * 3 + 2 := by omega
      rcases h3 with rfl | rfl | rfl
      · rw [lockCell_0, insF_at, Nat.sub_self]; rfl
      · rw [lockCell_1, insF_at, show p * 3 + 1 - p * 3 = 1 by omega]; rfl
      · rw [lockCell_2, insF_at, show p * 3 + 2 - p * 3 = 2 by omega]; rfl
    · rw [List.getElem?_append_right (by rw [List.length_append, hlt]; simp; omega), List.length_append, hlt, List.getElem?_drop, List.getElem?_map, List.getElem?_map]
      simp only [List.length_cons, List.length_nil]
      rw [show p * 3 + (j - (p * 3 + (0 + 1 + 1 + 1))) = j - 3 by omega]
      by_cases h4 : j < (N + 1) * 3
      · rw [List.getElem?_range h4, List.getElem?_range (by omega)]
        simp only [Option.map_some]
        rw [lockCell_past K hs qs p key hv qv j (by omega)]
      · rw [List.getElem?_eq_none (by simpa using h4), List.getElem?_eq_none (by simp; omega)]
        rfl

theorem isAt_ex {K : Nat → Int} (key : Int) : ∀ N, KeysUp N K → ∃ p, IsAt N K key p := by
  intro N
  induction N with
  | zero => intro _; exact ⟨0, Nat.le_refl _, fun j hj => by omega, fun j _ hj => by omega⟩
  | succ N ih =>
    intro h
    obtain ⟨p, h1, h2, h3⟩ := ih ⟨fun i hi => h.1 i (by omega), fun i j h4 h5 => h.2 i j h4 (by omega)⟩
    by_cases c : p = N ∧ K N < key
    · refine ⟨N + 1, Nat.le_refl _, fun j hj => ?_, fun j h4 h5 => by omega⟩
      by_cases e : j = N
      · subst e; exact c.2
      · exact h2 j (by omega)
    · refine ⟨p, by omega, h2, fun j h4 h5 => ?_⟩
      by_cases e : j = N
      · subst e
        by_cases e2 : p = j
        · subst e2
          have : ¬ K p < key := fun h6 => c ⟨rfl, h6⟩
          omega
        · have h6 := h3 p (Nat.le_refl _) (by omega)
          have h7 := h.2 p j (by omega) h5
          omega
      · exact h3 j h4 (by omega)
/-- x holds a lock whose key is not below. -/
def HoldsOn (N : Nat) (K : Nat → Int) (H : Nat → Line) (x key : Int) : Prop := ∃ i, i < N ∧ key ≤ K i ∧ inLine (H i) x
theorem keysTo_last {K : Nat → Int} {H : Nat → Line} {x : Int} : ∀ k, (keysTo K H x k = [] ∧ ∀ i, i < k → ¬ inLine (H i) x) ∨ (0 < (keysTo K H x k).length ∧ ∃ i, i < k ∧ inLine (H i) x ∧ getI (keysTo K H x k) ((keysTo K H x k).length - 1) = K i ∧ ∀ j, i < j → j < k → ¬ inLine (H j) x) := by
  intro k
  induction k with
  | zero => exact .inl ⟨rfl, fun i hi => by omega⟩
  | succ k ih =>
    by_cases h : inLine (H k) x
    · rw [keysTo_yes h]
      refine .inr ⟨by simp, k, by omega, h, ?_, fun j h1 h2 => by omega⟩
      rw [List.length_append]
      simp [getI]
    · rw [keysTo_no h]
      rcases ih with ⟨h1, h2⟩ | ⟨h0, i, h1, h2, h3, h4⟩
      · exact .inl ⟨h1, fun i hi => by
          by_cases e : i = k
          · subst e; exact h
          · exact h2 i (by omega)⟩
      · exact .inr ⟨h0, i, by omega, h2, h3, fun j h5 h6 => by
          by_cases e : j = k
          · subst e; exact h
          · exact h4 j h5 (by omega)⟩
/-- The code of an ask. -/
def AskCode (N : Nat) (K : Nat → Int) (H Q : Nat → Line) (x key : Int) (code : Int) : Prop :=
  (¬ (isTask x ∧ isKeyI key) → code = 2) ∧ (isTask x ∧ isKeyI key → ¬ noWait N Q x → code = 4) ∧ (isTask x ∧ isKeyI key → noWait N Q x → HoldsOn N K H x key → code = 3) ∧ (isTask x ∧ isKeyI key → noWait N Q x → ¬ HoldsOn N K H x key → code = 0)
theorem askCode_zero {N : Nat} {K : Nat → Int} {H Q : Nat → Line} {x key code : Int} (h : AskCode N K H Q x key code) : code = 0 ↔ (isTask x ∧ isKeyI key) ∧ noWait N Q x ∧ ¬ HoldsOn N K H x key := by
  by_cases h1 : isTask x ∧ isKeyI key
  · by_cases h2 : noWait N Q x
    · by_cases h3 : HoldsOn N K H x key
      · have := h.2.2.1 h1 h2 h3; subst this; simp [h3]
      · have := h.2.2.2 h1 h2 h3; subst this; simp [h1, h2, h3]
    · have := h.2.1 h1 h2; subst this; simp [h2]
  · have := h.1 h1; subst this; simp [h1]
theorem askCode_one {N : Nat} {K : Nat → Int} {H Q : Nat → Line} {x key code code' : Int} (h : AskCode N K H Q x key code) (h' : AskCode N K H Q x key code') : code' = code := by
  by_cases h1 : isTask x ∧ isKeyI key
  · by_cases h2 : noWait N Q x
    · by_cases h3 : HoldsOn N K H x key
      · rw [h.2.2.1 h1 h2 h3, h'.2.2.1 h1 h2 h3]
      · rw [h.2.2.2 h1 h2 h3, h'.2.2.2 h1 h2 h3]
    · rw [h.2.1 h1 h2, h'.2.1 h1 h2]
  · rw [h.1 h1, h'.1 h1]
/-- What is put at p, and whether it is held. -/
inductive PutIs (N : Nat) (K : Nat → Int) (H Q : Nat → Line) (x key : Int) (s : Bool) (p : Nat) : List LockW → Bool → Prop
  | fresh (h : ¬ (p < N ∧ K p = key)) : PutIs N K H Q x key s p (locksP (N + 1) (insF K p key) (insF H p (lineOf [(x, s)])) (insF Q p (lineOf []))) true
  | held (h : p < N ∧ K p = key) (hq : (Q p).n = 0) (hm : mayB (H p) s = true) : PutIs N K H Q x key s p (locksP N K (setF H p (lineOf (insP (asksTo (H p) (H p).n) (x, s)))) Q) true
  | queue (h : p < N ∧ K p = key) (hn : ¬ ((Q p).n = 0 ∧ mayB (H p) s = true)) : PutIs N K H Q x key s p (locksP N K H (setF Q p (lineOf (asksTo (Q p) (Q p).n ++ [(x, s)])))) false
theorem putIs_one {N : Nat} {K : Nat → Int} {H Q : Nat → Line} {x key : Int} {s : Bool} {p : Nat} {ls ls' : List LockW} {ok ok' : Bool} (h : PutIs N K H Q x key s p ls ok) (h' : PutIs N K H Q x key s p ls' ok') : ls' = ls ∧ ok' = ok := by
  cases h with
  | fresh h1 =>
    cases h' with
    | fresh => exact ⟨rfl, rfl⟩
    | held h2 => exact absurd h2 h1
    | queue h2 => exact absurd h2 h1
  | held h1 hq hm =>
    cases h' with
    | fresh h2 => exact absurd h1 h2
    | held => exact ⟨rfl, rfl⟩
    | queue h2 hn => exact absurd ⟨hq, hm⟩ hn
  | queue h1 hn =>
    cases h' with
    | fresh h2 => exact absurd h1 h2
    | held h2 hq hm => exact absurd ⟨hq, hm⟩ hn
    | queue => exact ⟨rfl, rfl⟩
/-- No room for a key that is new. -/
def NoRoom (N : Nat) (K : Nat → Int) (x key : Int) (p : Nat) : Prop := (isTask x ∧ isKeyI key) ∧ ¬ (p < N ∧ K p = key) ∧ N = 60
/-- What AskLock answers. -/
def AskAns (N : Nat) (K : Nat → Int) (H Q : Nat → Line) (x key : Int) (s : Bool) (ls : List LockW) (ok : Bool) (code : Int) : Prop :=
  (¬ GoodL N K H Q → ls = [] ∧ ok = false ∧ code = 1) ∧
  (GoodL N K H Q → ∃ p, IsAt N K key p ∧ (NoRoom N K x key p → ls = [] ∧ ok = false ∧ code = 1) ∧ (¬ NoRoom N K x key p → AskCode N K H Q x key code ∧ (code ≠ 0 → ls = locksP N K H Q ∧ ok = false) ∧ (code = 0 → PutIs N K H Q x key s p ls ok)))
theorem askAns_one {N : Nat} {K : Nat → Int} {H Q : Nat → Line} {x key : Int} {s : Bool} {ls ls' : List LockW} {ok ok' : Bool} {code code' : Int} (h : AskAns N K H Q x key s ls ok code) (h' : AskAns N K H Q x key s ls' ok' code') : ls' = ls ∧ ok' = ok ∧ code' = code := by
  by_cases g : GoodL N K H Q
  · obtain ⟨p, hp, h1, h2⟩ := h.2 g
    obtain ⟨p', hp', h1', h2'⟩ := h'.2 g
    obtain rfl := isAt_one hp hp'
    by_cases r : NoRoom N K x key p
    · obtain ⟨rfl, rfl, rfl⟩ := h1 r
      obtain ⟨rfl, rfl, rfl⟩ := h1' r
      exact ⟨rfl, rfl, rfl⟩
    · obtain ⟨c1, d1, e1⟩ := h2 r
      obtain ⟨c2, d2, e2⟩ := h2' r
      obtain rfl := askCode_one c1 c2
      by_cases z : code' = 0
      · obtain ⟨rfl, rfl⟩ := putIs_one (e1 z) (e2 z)
        exact ⟨rfl, rfl, rfl⟩
      · obtain ⟨rfl, rfl⟩ := d1 z
        obtain ⟨rfl, rfl⟩ := d2 z
        exact ⟨rfl, rfl, rfl⟩
  · obtain ⟨rfl, rfl, rfl⟩ := h.1 g
    obtain ⟨rfl, rfl, rfl⟩ := h'.1 g
    exact ⟨rfl, rfl, rfl⟩
theorem shortP {N : Nat} {K : Nat → Int} {H Q : Nat → Line} {B : Nat} (h : ShortTo N H Q B) : ShortL (locksP N K H Q) B := locksP_short h
theorem askAns_short {N : Nat} {K : Nat → Int} {H Q : Nat → Line} {x key : Int} {s : Bool} {ls : List LockW} {ok : Bool} {code : Int} (h : AskAns N K H Q x key s ls ok code) : ls.length ≤ 61 ∧ ShortL ls 24 := by
  by_cases g : GoodL N K H Q
  · have hs : ∀ i, i < N → (H i).n ≤ 12 ∧ (Q i).n ≤ 12 := fun i hi => by have := good_lines ((goodL_iff N K H Q).1 g) hi; omega
    have h60 := g.1
    obtain ⟨p, hp, h1, h2⟩ := h.2 g
    by_cases r : NoRoom N K x key p
    · obtain ⟨rfl, _, _⟩ := h1 r
      exact ⟨by simp, by intro a ha; simp at ha⟩
    · obtain ⟨_, d1, e1⟩ := h2 r
      by_cases z : code = 0
      · cases e1 z with
        | fresh h3 =>
          refine ⟨by simp [locksP]; omega, shortP (fun i hi => ?_)⟩
          rcases Nat.lt_trichotomy i p with e | e | e
          · rw [insF_lt e, insF_lt e]; have := hs i (by have := hp.1; omega); omega
          · subst e; rw [insF_at, insF_at]; simp [lineOf]
          · rw [insF_gt e, insF_gt e]; have := hs (i - 1) (by omega); omega
        | held h3 hq hm =>
          refine ⟨by simp [locksP]; omega, shortP (fun i hi => ?_)⟩
          by_cases e : i = p
          · subst e; rw [setF_at]; have := hs i hi; simp [lineOf, insP_length, asksTo_length]; omega
          · rw [setF_ne e]; have := hs i hi; omega
        | queue h3 hn =>
          refine ⟨by simp [locksP]; omega, shortP (fun i hi => ?_)⟩
          by_cases e : i = p
          · subst e; rw [setF_at]; have := hs i hi; simp [lineOf, asksTo_length]; omega
          · rw [setF_ne e]; have := hs i hi; omega
      · obtain ⟨rfl, _⟩ := d1 z
        exact ⟨by simp [locksP]; omega, shortP (fun i hi => by have := hs i hi; omega)⟩
  · obtain ⟨rfl, _⟩ := h.1 g
    exact ⟨by simp, by intro a ha; simp at ha⟩

end Go.Proofs.Ytdmkpflphjemoaa

namespace Go.Proofs.Ytdmkpflphjemoaa
open Go.RowKit Go.Lib

set_option maxHeartbeats 1600000 in
set_option maxRecDepth 100000 in
theorem insertK_end (ao : Option Addr) (n c base vb : Nat) (x : Int) (vm vn : Value) (hm1 : vm.oneCell' = true) (hm2 : vn.oneCell' = true) (xs : List Value) (w : World) (hn : n ≤ 1048576) (ho : w.ownsRow base 60 3 (.slice ao n c) n xs) (hv : w.heap[vb]? = some (.cells #[.int .i64 x, vm, vn] 60 (0, 0))) (hb : base ≤ w.heap.size) :
    Calls Try.prog 47 #[.slice ao n c, .int .i64 n, .slice (some ⟨vb, 0, none⟩) 1 1] w fun e w' => ∃ v, e = .returned v ∧ w'.ownsRow base 60 3 v (n + 1) (xs ++ [.int .i64 x, vm, vn]) ∧ w.grownBy w' (Value.slice ao n c).ownBlock ∧ (∀ g, v.ownBlock = some g → (Value.slice ao n c).ownBlock = some g ∨ w.heap.size ≤ g) := by
  obtain ⟨j0, ji, jz0, jz1, jz2⟩ := info_parts Try.infoLock
  have HO : Hid (w.ownsRow base 60 3 (.slice ao n c) n xs) := ho
  have HV : Hid (w.heap[vb]? = some (.cells #[.int .i64 x, vm, vn] 60 (0, 0))) := hv
  obtain ⟨a', c', e', hc, hc2, hna⟩ := own_form ho
  simp only [Value.slice.injEq, true_and] at e'
  obtain ⟨rfl, rfl⟩ := e'
  have hc3 : c ≤ 9223372036854775807 := by unfold maxLen at hc2; omega
  clear hc2 ho hv
  have i1 : (n : Int) ≤ (c : Int) := by omega
  have i2 : (0 : Int) ≤ (n : Int) := by omega
  cases ao with
  | none =>
    obtain ⟨rfl, rfl⟩ := hna rfl
    go_enter Try.func47, Try.ntmps47
    go_wp2_with (first | (at_builtin; refine wpList_append_lies _ (by rfl) (.tmp 23) (.tmp 24) 23 (by rfl) base 60 j0 (.agg #[.int .i64 0, .slice none 0 0, .slice none 0 0]) 3 56 Try.underlying23 ji jz0 jz1 jz2 rfl (by decide) _ 0 xs (by rfl) HO.out ⟨vb, 0, none⟩ 1 1 [.int .i64 x, vm, vn] (by rfl) (by rfl) (World.news_of_block HV.out) (by intro u hu; simp at hu; rcases hu with rfl | rfl | rfl; rfl; exact hm1; exact hm2) (by decide) (by unfold maxLen; omega) (by omega) hb w.heap.size rfl ?_; intro g' cap' w3 ho3 hg3 hat3 hlt3))
    (try rw [Exit.noGoto_ret])
    go_ret
    exact ⟨_, rfl, ho3, hg3, fun g e => by have e' : some g' = some g := e; cases e'; rcases hat3 with h | h; exact .inl h; exact .inr (by omega)⟩
  | some ad =>
    go_enter Try.func47, Try.ntmps47
    go_wp2_with (first | (at_builtin; refine wpList_append_lies _ (by rfl) (.tmp 23) (.tmp 24) 23 (by rfl) base 60 j0 (.agg #[.int .i64 0, .slice none 0 0, .slice none 0 0]) 3 56 Try.underlying23 ji jz0 jz1 jz2 rfl (by decide) _ n xs (by rfl) HO.out ⟨vb, 0, none⟩ 1 1 [.int .i64 x, vm, vn] (by rfl) (by rfl) (World.news_of_block HV.out) (by intro u hu; simp at hu; rcases hu with rfl | rfl | rfl; rfl; exact hm1; exact hm2) (by decide) (by unfold maxLen; omega) (by omega) hb w.heap.size rfl ?_; intro g' cap' w3 ho3 hg3 hat3 hlt3))
    all_goals
      (try rw [Exit.noGoto_ret])
      go_ret
      exact ⟨_, rfl, ho3, hg3, fun g e => by have e' : some g' = some g := e; cases e'; rcases hat3 with h | h; exact .inl h; exact .inr (by omega)⟩

set_option maxHeartbeats 4000000 in
set_option maxRecDepth 100000 in
/-- There is room, and the place lies ahead of the end: in place. -/
theorem insertK_shift (b n c i vb : Nat) (x : Int) (vm vn : Value) (hm1 : vm.oneCell' = true) (hm2 : vn.oneCell' = true) (cs : List Value) (w : World) (hi : i < n) (hroom : n + 1 ≤ c) (hn : n ≤ 1048576) (hc63 : c ≤ 9223372036854775807) (hvb : vb ≠ b) (hcl : cs.length = n * 3)
    (hcs : ∀ j v, cs[j]? = some v → w.cell? ⟨b, j, none⟩ = some v) (hsp : ∀ j, j < (n + 1) * 3 → (w.cell? ⟨b, j, none⟩).isSome = true) (hfz : ∀ j, j < (n + 1) * 3 → w.frozen? ⟨b, j, none⟩ = false)
    (hv : w.heap[vb]? = some (.cells #[.int .i64 x, vm, vn] 60 (0, 0))) (h1c : ∀ v ∈ cs, v.oneCell' = true)
    (tB : TypeId) (kB : Nat) (hsb : w.shape? b = some (tB, kB)) (hkB : kB ≠ 0) :
    Calls Try.prog 47 #[.slice (some ⟨b, 0, none⟩) n c, .int .i64 i, .slice (some ⟨vb, 0, none⟩) 1 1] w fun e w' =>
      e = .returned (.slice (some ⟨b, 0, none⟩) (n + 1) c) ∧ w' = (w.drew.setCells b ((i + 1) * 3) (cs.drop (i * 3))).setCells b (i * 3) [.int .i64 x, vm, vn] := by
  obtain ⟨j0, ji, jz0, jz1, jz2⟩ := info_parts Try.infoLock
  have hsz : (Try.prog.info? 60).map (·.size) = some 3 := by rw [ji]; simp [jz1]
  have hz2 : ¬ ((i : Int) = (n : Int)) := by omega
  have v0 := blk_cell hv 0 _ rfl
  have v1 := blk_cell hv 1 _ rfl
  have hsa : w.shape? vb = some (60, 3) := by simp [World.shape?, hv]
  have hfa := blk_free hv 0
  have hfe := blk_free hv 3
  have hov : ∀ lb cb, (callFunc 61 #[.slice (some ⟨vb, 0, none⟩) 1 1, .slice (some ⟨b, (i + 1) * 3, none⟩) lb cb]).run Try.prog w = .ok (.value (.bool false)) w := fun lb cb => by
    rw [run_callFunc_extern Try.func61 (by kernel_rfl) (by kernel_rfl) (by kernel_rfl) (e := Extern.SlicesOverlaps.overlaps #[23, 23] #[4]) (by kernel_rfl),
      Lib.run_overlaps_apart w 23 4 60 Try.underlying23 3 (fun w => by simp [sizeOf, typeInfo, ji, jz1]) ⟨vb, 0, none⟩ ⟨b, (i + 1) * 3, none⟩ 1 1 lb cb hvb 60 tB 3 kB hsa hsb hkB hfa hfe]
    rfl
  have hw1 : IntKind.i64.wrap ((i : Int) + 1) = (i : Int) + 1 := by rw [IntKind.wrap_i64]; omega
  have hb1 : (0 : Int) ≤ (i : Int) + 1 := by omega
  have hin : i ≤ n := by omega
  have htn : ((i : Int) + 1).toNat = i + 1 := by omega
  have hb2 : ¬ (c = i + 1) := by omega
  have hb3 : (i : Int) ≤ (n : Int) + 1 := by omega
  have hb4 : ¬ (c = i) := by omega
  have k1 : (i : Int) ≤ (n : Int) := by omega
  have k2 : ¬ ((c : Int) < (n : Int) + 1) := by omega
  have hdl : (cs.drop (i * 3)).length = (n - i) * 3 := by rw [List.length_drop, hcl]; omega
  have hcp1 : ∀ ty dl dc sl sc, Nat.min sl dl = n - i → (Builtin.copy_ #[23, 23] ty #[.slice (some ⟨b, (i + 1) * 3, none⟩) dl dc, .slice (some ⟨b, i * 3, none⟩) sl sc]).run Try.prog w.drew = .ok (goInt ((n - i : Nat) : Int)) (w.drew.setCells b ((i + 1) * 3) (cs.drop (i * 3))) := fun ty dl dc sl sc hm => by
    have h := run_copy_sz (P := Try.prog) w.drew 23 23 ty 60 3 b ((i + 1) * 3) dl dc ⟨b, i * 3, none⟩ sl sc (cs.drop (i * 3)) Try.underlying23 hsz (by rw [hdl, hm])
      (fun j v hj => by rw [Addr.add_lit]; exact hcs (i * 3 + j) v (by rwa [List.getElem?_drop] at hj))
      (fun j hj => hsp _ (by omega)) (fun j hj => hfz _ (by omega)) (fun v hv => h1c v (List.mem_of_mem_drop hv))
    rw [hm] at h
    exact h
  obtain ⟨W1, hW1⟩ : ∃ W1, W1 = w.drew.setCells b ((i + 1) * 3) (cs.drop (i * 3)) := ⟨_, rfl⟩
  have hsp1 : ∀ k, k < (n + 1) * 3 → (W1.cell? ⟨b, k, none⟩).isSome = true := fun k hk => by
    rw [hW1]
    exact isSome_setCells b (cs.drop (i * 3)) ((i + 1) * 3) w.drew (fun j hj => hsp ((i + 1) * 3 + j) (by rw [hdl] at hj; omega)) k (hsp k hk)
  have hcp2 : ∀ ty dl dc, 1 ≤ dl → (Builtin.copy_ #[23, 23] ty #[.slice (some ⟨b, i * 3, none⟩) dl dc, .slice (some ⟨vb, 0, none⟩) 1 1]).run Try.prog W1 = .ok (goInt 1) (W1.setCells b (i * 3) [.int .i64 x, vm, vn]) := fun ty dl dc hd => by
    have hm : Nat.min 1 dl = 1 := Nat.min_eq_left hd
    have h := run_copy_sz (P := Try.prog) W1 23 23 ty 60 3 b (i * 3) dl dc ⟨vb, 0, none⟩ 1 1 [.int .i64 x, vm, vn] Try.underlying23 hsz (by rw [hm]; rfl)
      (fun j v hj => by
        rw [Addr.add_lit, hW1, World.cell?_setCells_out b _ _ _ _ (fun h _ => absurd h hvb)]
        have hq := World.news_of_block hv j v hj
        rw [Addr.add_lit] at hq
        exact hq)
      (fun j hj => hsp1 _ (by have : j < 3 := hj; omega)) (fun j hj => by rw [hW1, World.frozen?_setCells]; exact hfz _ (by have : j < 3 := hj; omega)) (by intro u hu; simp at hu; rcases hu with rfl | rfl | rfl; rfl; exact hm1; exact hm2)
    rw [hm] at h
    exact h
  rw [hW1] at hcp2
  clear hsp1 hW1 W1
  have dl1 : 1 ≤ n + 1 - i := by omega
  have m1 : Nat.min (n + 1 - i) (n - i) = n - i := Nat.min_eq_right (by omega)
  go_enter Try.func47, Try.ntmps47
  go_wp2_with (simp only [hov])
  go_region_law (refine step_copy_runI (by rfl) _ _ 23 23 (by rfl) _ _ (by simp [Act.eval, Act.put]) (by simp [Act.eval, Act.put]) (hcp1 _ _ _ _ _ (by simp only [Nat.min_def]; split <;> omega)) ?_)
  go_wp2_with (first | (at_builtin; refine wpList_copy_runI _ rfl (.tmp 80) (.tmp 81) 23 23 rfl (.slice (some ⟨b, i * 3, none⟩) (n + 1 - i) (c - i)) (.slice (some ⟨vb, 0, none⟩) 1 1) (by rfl) (by rfl) (hcp2 3 (n + 1 - i) (c - i) dl1) ?_))
  (try rw [Exit.noGoto_ret])
  go_ret
  exact ⟨rfl, rfl⟩


set_option maxHeartbeats 4000000 in
set_option maxRecDepth 100000 in
theorem insertK_grow (b n c i vb : Nat) (x : Int) (vm vn : Value) (hm1 : vm.oneCell' = true) (hm2 : vn.oneCell' = true) (cs : List Value) (w : World) (hi : i < n) (hnc : n ≤ c) (hroom : c < n + 1) (hn : n ≤ 1048576) (hcl : cs.length = n * 3)
    (hcs : ∀ j v, cs[j]? = some v → w.cell? ⟨b, j, none⟩ = some v)
    (hv : w.heap[vb]? = some (.cells #[.int .i64 x, vm, vn] 60 (0, 0))) (h1c : ∀ v ∈ cs, v.oneCell' = true) :
    Calls Try.prog 47 #[.slice (some ⟨b, 0, none⟩) n c, .int .i64 i, .slice (some ⟨vb, 0, none⟩) 1 1] w fun e w' =>
      e = .returned (.slice (some ⟨w.heap.size, 0, none⟩) (n + 1) (grownCap w (n + 1) c 60)) ∧
      w' = (((w.alloc (.cells ((cs.take (i * 3)).toArray ++ Builtin.zeroCells (Value.agg #[.int .i64 0, .slice none 0 0, .slice none 0 0]).cells (n + 1 - i) ++ Builtin.zeroCells (Value.agg #[.int .i64 0, .slice none 0 0, .slice none 0 0]).cells (grownCap w (n + 1) c 60 - (n + 1))) 60)).drew.setCells w.heap.size (i * 3) [.int .i64 x, vm, vn]).drew).setCells w.heap.size ((i + 1) * 3) (cs.drop (i * 3)) := by
  obtain ⟨i0, hi0, hz0, hzs, hzb⟩ := info_parts Try.infoLock
  have hbig : (n + 1) * 56 ≤ 140737488355328 := by omega
  have hz2 : ¬ ((i : Int) = (n : Int)) := by omega
  have hz3 : (c : Int) < (n : Int) + 1 := by omega
  have hsz : (Try.prog.info? 60).map (·.size) = some 3 := by rw [hi0]; simp [hzs]
  have hbw : b < w.heap.size := block_lt_of_cell (hcs 0 _ (List.getElem?_eq_getElem (by omega)))
  have hvw : vb < w.heap.size := blk_lt hv
  have hkk : (n : Int) + 1 - (i : Int) = ((n + 1 - i : Nat) : Int) := by omega
  have hik : i + (n + 1 - i) = n + 1 := by omega
  have hold : (Builtin.firstCells i0.size i (.slice (some ⟨b, 0, none⟩) i c)).run Try.prog w.drew = .ok (cs.take (i * 3)).toArray w.drew := by
    rw [hzs]
    exact run_firstCells_some w.drew 3 i ⟨b, 0, none⟩ i c (cs.take (i * 3)) (by rw [List.length_take]; omega) (fun j v hj => by
      rw [Addr.add_lit]
      rw [List.getElem?_take] at hj
      split at hj
      · rw [Nat.zero_add]; exact hcs j v hj
      · cases hj)
  have hrz : ∀ ty, (Builtin.append_ #[23, 3] ty #[.slice (some ⟨b, 0, none⟩) i c, .int .i64 ((n : Int) + 1 - (i : Int))]).run Try.prog w =
      .ok (.slice (some ⟨w.heap.size, 0, none⟩) (n + 1) (grownCap w (n + 1) c 60)) (w.drew.alloc (.cells ((cs.take (i * 3)).toArray ++ Builtin.zeroCells (Value.agg #[.int .i64 0, .slice none 0 0, .slice none 0 0]).cells (n + 1 - i) ++ Builtin.zeroCells (Value.agg #[.int .i64 0, .slice none 0 0, .slice none 0 0]).cells (grownCap w (n + 1) c 60 - (n + 1))) 60)) := fun ty => by
    have h := Lib.run_append_grow_zeros w 23 3 ty 60 i0 _ .i64 .i64 Try.underlying23 Try.underlying3 hi0 hz0 (some ⟨b, 0, none⟩) i c (cs.take (i * 3)) hold (n + 1 - i) (by omega) (by omega) (by omega) (by omega) (by rw [hzb]; omega) (by rw [hzb, hik]; exact growslice_fits hroom hbig)
    rw [hik] at h
    rw [hkk]
    exact h
  obtain ⟨G, hG⟩ : ∃ G, G = grownCap w (n + 1) c 60 := ⟨_, rfl⟩
  obtain ⟨ROW, hROW⟩ : ∃ ROW : Array Value, ROW = (cs.take (i * 3)).toArray ++ Builtin.zeroCells (Value.agg #[.int .i64 0, .slice none 0 0, .slice none 0 0]).cells (n + 1 - i) ++ Builtin.zeroCells (Value.agg #[.int .i64 0, .slice none 0 0, .slice none 0 0]).cells (G - (n + 1)) := ⟨_, rfl⟩
  rw [← hG] at hrz ⊢
  rw [← hROW] at hrz ⊢
  have hRl : (n + 1) * 3 ≤ ROW.size := by
    rw [hROW]
    simp [Builtin.zeroCells, Value.cells]
    omega
  obtain ⟨W1, hW1⟩ : ∃ W1, W1 = w.drew.alloc (.cells ROW 60) := ⟨_, rfl⟩
  rw [← hW1] at hrz
  have hN : ∀ j, j < (n + 1) * 3 → (W1.cell? ⟨w.heap.size, j, none⟩).isSome = true := fun j hj => by
    rw [hW1, World.cell?_alloc_at (w := w.drew) ROW _ w.heap.size j rfl, Array.getElem?_eq_getElem (by omega)]; rfl
  have hNf : ∀ j, W1.frozen? ⟨w.heap.size, j, none⟩ = false := fun j => by rw [hW1]; exact World.frozen?_alloc_at (w := w.drew) ROW _ w.heap.size j rfl
  have hOb : ∀ j v, w.cell? ⟨b, j, none⟩ = some v → W1.cell? ⟨b, j, none⟩ = some v := fun j v h => by rw [hW1, World.cell?_alloc_past (w := w.drew) _ b j hbw]; exact h
  have hOv : ∀ j v, w.cell? ⟨vb, j, none⟩ = some v → W1.cell? ⟨vb, j, none⟩ = some v := fun j v h => by rw [hW1, World.cell?_alloc_past (w := w.drew) _ vb j hvw]; exact h
  have hdl : (cs.drop (i * 3)).length = (n - i) * 3 := by rw [List.length_drop, hcl]; omega
  have m1 : Nat.min 1 (n + 1 - i) = 1 := Nat.min_eq_left (by omega)
  have m2 : Nat.min (n - i) (n + 1 - (i + 1)) = n - i := by simp only [Nat.min_def]; split <;> omega
  have hcpA : ∀ (W : World), (∀ x, W.cell? x = W1.cell? x) → (∀ x, W.frozen? x = W1.frozen? x) → ∀ ty dc, (Builtin.copy_ #[23, 23] ty #[.slice (some ⟨w.heap.size, i * 3, none⟩) (n + 1 - i) dc, .slice (some ⟨vb, 0, none⟩) 1 1]).run Try.prog W = .ok (goInt 1) (W.setCells w.heap.size (i * 3) [.int .i64 x, vm, vn]) := fun W hWc hWf ty dc => by
    have h := run_copy_sz (P := Try.prog) W 23 23 ty 60 3 w.heap.size (i * 3) (n + 1 - i) dc ⟨vb, 0, none⟩ 1 1 [.int .i64 x, vm, vn] Try.underlying23 hsz (by rw [m1]; rfl)
      (fun j v hj => by
        rw [Addr.add_lit, hWc]
        have hq := World.news_of_block hv j v hj
        rw [Addr.add_lit] at hq
        exact hOv _ v hq)
      (fun j hj => by rw [hWc]; exact hN _ (by have : j < 3 := hj; omega)) (fun j hj => by rw [hWf]; exact hNf _) (by intro u hu; simp at hu; rcases hu with rfl | rfl | rfl; rfl; exact hm1; exact hm2)
    rw [m1] at h
    exact h
  have hGn : n + 1 ≤ G := by rw [hG]; exact grownCap_ge w _ _ _
  have hG63 : G ≤ 9223372036854775807 := by
    have := grownCap_le_maxLen w (n + 1) c 60 (by unfold maxLen; omega)
    rw [← hG] at this
    unfold maxLen at this
    omega
  have hGi : ¬ (G = i) := by omega
  have hGim : ¬ (G = i + 1) := by omega
  have hci : ¬ (c = i) := by omega
  have hbN : b ≠ w.heap.size := by omega
  have hcpB : ∀ (W : World), (∀ y, W.cell? y = (W1.setCells w.heap.size (i * 3) [.int .i64 x, vm, vn]).cell? y) → (∀ y, W.frozen? y = (W1.setCells w.heap.size (i * 3) [.int .i64 x, vm, vn]).frozen? y) → ∀ ty dc sc, (Builtin.copy_ #[23, 23] ty #[.slice (some ⟨w.heap.size, (i + 1) * 3, none⟩) (n + 1 - (i + 1)) dc, .slice (some ⟨b, i * 3, none⟩) (n - i) sc]).run Try.prog W = .ok (goInt ((n - i : Nat) : Int)) (W.setCells w.heap.size ((i + 1) * 3) (cs.drop (i * 3))) := fun W hWc hWf ty dc sc => by
    have h := run_copy_sz (P := Try.prog) W 23 23 ty 60 3 w.heap.size ((i + 1) * 3) (n + 1 - (i + 1)) dc ⟨b, i * 3, none⟩ (n - i) sc (cs.drop (i * 3)) Try.underlying23 hsz (by rw [hdl, m2])
      (fun j v hj => by
        rw [Addr.add_lit, hWc, World.cell?_setCells_out _ _ _ _ _ (fun h _ => absurd h hbN)]
        exact hOb _ v (hcs (i * 3 + j) v (by rwa [List.getElem?_drop] at hj)))
      (fun j hj => by rw [hWc]; exact isSome_setCells _ _ _ _ (fun t ht => hN _ (by have : t < 3 := ht; omega)) _ (hN _ (by omega)))
      (fun j hj => by rw [hWf, World.frozen?_setCells]; exact hNf _) (fun v hv => h1c v (List.mem_of_mem_drop hv))
    rw [m2] at h
    exact h
  subst hW1
  have hE1 : ∀ y, ((w.alloc (.cells ROW 60)).drew).cell? y = (w.drew.alloc (.cells ROW 60)).cell? y := fun y => rfl
  have hE2 : ∀ y, ((w.alloc (.cells ROW 60)).drew).frozen? y = (w.drew.alloc (.cells ROW 60)).frozen? y := fun y => rfl
  have hF1 : ∀ y, (((w.alloc (.cells ROW 60)).drew.setCells w.heap.size (i * 3) [.int .i64 x, vm, vn]).drew).cell? y = ((w.drew.alloc (.cells ROW 60)).setCells w.heap.size (i * 3) [.int .i64 x, vm, vn]).cell? y := fun y => rfl
  have hF2 : ∀ y, (((w.alloc (.cells ROW 60)).drew.setCells w.heap.size (i * 3) [.int .i64 x, vm, vn]).drew).frozen? y = ((w.drew.alloc (.cells ROW 60)).setCells w.heap.size (i * 3) [.int .i64 x, vm, vn]).frozen? y := fun y => rfl
  have hw1 : IntKind.i64.wrap ((i : Int) + 1) = (i : Int) + 1 := by rw [IntKind.wrap_i64]; omega
  have hb1 : (0 : Int) ≤ (i : Int) + 1 := by omega
  have hin : i ≤ n := by omega
  have htn : ((i : Int) + 1).toNat = i + 1 := by omega
  have hb3 : (i : Int) ≤ (n : Int) := by omega
  clear hkk hik hold hROW hG hRl
  go_enter Try.func47, Try.ntmps47
  go_wp2_with (first
    | (at_builtin; refine Lib.wpList_append_run _ rfl _ _ _ _ rfl _ _ rfl rfl _ _ (hrz _) ?_)
    | (at_builtin; refine wpList_copy_runI _ rfl _ _ 23 23 rfl _ _ rfl rfl (hcpA _ hE1 hE2 _ _) ?_)
    | (at_builtin; refine wpList_copy_runI _ rfl _ _ 23 23 rfl _ _ rfl rfl (hcpB _ (fun _ => rfl) (fun _ => rfl) _ _ _) ?_))
  go_region_law (refine step_copy_runI rfl _ _ 23 23 rfl (.slice (some ⟨w.heap.size, (i + 1) * 3, none⟩) (n + 1 - (i + 1)) (G - (i + 1))) (.slice (some ⟨b, i * 3, none⟩) (n - i) (c - i)) (by simp [Act.eval, Act.put]) (by simp [Act.eval, Act.put]) (hcpB _ hF1 hF2 3 (G - (i + 1)) (c - i)) ?_)
  go_wp2
  (try rw [Exit.noGoto_ret])
  go_ret
  exact ⟨rfl, rfl⟩

/-- What Insert makes of a list of cells, two an element. -/
def insK (xs : List Value) (i : Nat) (x : Int) (vm vn : Value) : List Value := xs.take (i * 3) ++ [.int .i64 x, vm, vn] ++ xs.drop (i * 3)

theorem insK_shift {ys xs : List Value} {n i : Nat} {x : Int} {vm vn : Value} (hy : ys.length = (n + 1) * 3) (hx : xs.length = n * 3) (ht : ys.take (n * 3) = xs) (hi : i < n) :
    setL (i * 3) [.int .i64 x, vm, vn] (setL ((i + 1) * 3) (xs.drop (i * 3)) ys) = insK xs i x vm vn := by
  have hd : (xs.drop (i * 3)).length = (n - i) * 3 := by rw [List.length_drop, hx]; omega
  rw [setL_eq _ ((i + 1) * 3) ys (by rw [hd, hy]; omega), setL_eq _ _ _ (by simp only [List.length_append, List.length_take, List.length_drop, hy, hx, List.length_cons, List.length_nil]; omega)]
  unfold insK
  have e1 : ys.drop ((i + 1) * 3 + (xs.drop (i * 3)).length) = [] := List.drop_eq_nil_of_le (by rw [hd, hy]; omega)
  rw [e1, List.append_nil]
  have e2 : (ys.take ((i + 1) * 3) ++ xs.drop (i * 3)).take (i * 3) = xs.take (i * 3) := by
    rw [List.take_append_of_le_length (by rw [List.length_take, hy]; omega), List.take_take, ← ht, List.take_take]
    congr 1
    omega
  have e3 : (ys.take ((i + 1) * 3) ++ xs.drop (i * 3)).drop (i * 3 + [Value.int .i64 x, vm, vn].length) = xs.drop (i * 3) := by
    rw [show i * 3 + [Value.int .i64 x, vm, vn].length = (ys.take ((i + 1) * 3)).length by rw [List.length_take, hy]; simp only [List.length_cons, List.length_nil]; omega]
    exact List.drop_left
  rw [e2, e3]

theorem insK_grow {zs xs : List Value} {n i : Nat} {x : Int} {vm vn : Value} (hz : zs.length = (n + 1 - i) * 3) (hx : xs.length = n * 3) (hi : i < n) :
    setL ((i + 1) * 3) (xs.drop (i * 3)) (setL (i * 3) [.int .i64 x, vm, vn] (xs.take (i * 3) ++ zs)) = insK xs i x vm vn := by
  have ht : (xs.take (i * 3)).length = i * 3 := by rw [List.length_take, hx]; omega
  have hd : (xs.drop (i * 3)).length = (n - i) * 3 := by rw [List.length_drop, hx]; omega
  rw [setL_eq _ (i * 3) _ (by simp only [List.length_append, ht, hz, List.length_cons, List.length_nil]; omega)]
  have e1 : (xs.take (i * 3) ++ zs).take (i * 3) = xs.take (i * 3) := by
    have := List.take_left (l₁ := xs.take (i * 3)) (l₂ := zs)
    rwa [ht] at this
  rw [e1]
  have hl : (xs.take (i * 3) ++ [Value.int .i64 x, vm, vn]).length = (i + 1) * 3 := by rw [List.length_append, ht]; simp only [List.length_cons, List.length_nil]; omega
  rw [setL_eq _ _ _ (by simp only [List.length_append, List.length_drop, ht, hz, hd, List.length_cons, List.length_nil]; omega)]
  have e2 : ((xs.take (i * 3) ++ [Value.int .i64 x, vm, vn]) ++ (xs.take (i * 3) ++ zs).drop (i * 3 + [Value.int .i64 x, vm, vn].length)).take ((i + 1) * 3) = xs.take (i * 3) ++ [.int .i64 x, vm, vn] := by
    rw [← hl]
    exact List.take_left
  rw [e2]
  have e3 : ((xs.take (i * 3) ++ [Value.int .i64 x, vm, vn]) ++ (xs.take (i * 3) ++ zs).drop (i * 3 + [Value.int .i64 x, vm, vn].length)).drop ((i + 1) * 3 + (xs.drop (i * 3)).length) = [] := by
    apply List.drop_eq_nil_of_le
    simp only [List.length_append, List.length_drop, ht, hz, hd, List.length_cons, List.length_nil]
    omega
  rw [e3, List.append_nil]
  rfl

theorem insK_end {xs : List Value} {n : Nat} {x : Int} {vm vn : Value} (hx : xs.length = n * 3) : insK xs n x vm vn = xs ++ [.int .i64 x, vm, vn] := by
  unfold insK
  rw [List.take_of_length_le (by omega), List.drop_eq_nil_of_le (by omega), List.append_nil]

/-- slices.Insert at a place of an own row. -/
theorem insertK_any (ao : Option Addr) (n c i base vb : Nat) (x : Int) (vm vn : Value) (hm1 : vm.oneCell' = true) (hm2 : vn.oneCell' = true) (xs : List Value) (w : World) (hi : i ≤ n) (hn : n ≤ 1048576) (ho : w.ownsRow base 60 3 (.slice ao n c) n xs) (h1c : ∀ v ∈ xs, v.oneCell' = true)
    (hv : w.heap[vb]? = some (.cells #[.int .i64 x, vm, vn] 60 (0, 0))) (hvb : (Value.slice ao n c).ownBlock ≠ some vb) (hb : base ≤ w.heap.size) :
    Calls Try.prog 47 #[.slice ao n c, .int .i64 i, .slice (some ⟨vb, 0, none⟩) 1 1] w fun e w' => ∃ v, e = .returned v ∧ w'.ownsRow base 60 3 v (n + 1) (insK xs i x vm vn) ∧ w.grownBy w' (Value.slice ao n c).ownBlock ∧ (∀ g, v.ownBlock = some g → (Value.slice ao n c).ownBlock = some g ∨ w.heap.size ≤ g) := by
  by_cases hin : i = n
  · subst hin
    refine (insertK_end ao i c base vb x vm vn hm1 hm2 xs w hn ho hv hb).mono fun e w' h => ?_
    rw [insK_end ho.1]
    exact h
  · have hi : i < n := by omega
    obtain ⟨g, rfl, hg1, hg2⟩ := own_addr ho (by omega)
    have hne : vb ≠ g := fun h => hvb (by rw [h]; rfl)
    have hlen : xs.length = n * 3 := ho.1
    have hcs : ∀ j v, xs[j]? = some v → w.cell? ⟨g, j, none⟩ = some v := fun j v hj => by
      have hjl : j < n * 3 := by rw [← hlen]; exact (List.getElem?_eq_some_iff.1 hj).1
      rw [ho.cellAt j hjl]; exact hj
    obtain ⟨_, _, e', hnc, hcm, _⟩ := own_form ho
    simp only [Value.slice.injEq, true_and] at e'
    obtain ⟨_, rfl⟩ := e'
    by_cases hroom : n + 1 ≤ c
    · obtain ⟨ys, hoy, hyl, hyt⟩ := own_wider ho (Nat.le_succ n) hroom
      obtain ⟨cur, hcur, hcl⟩ : ∃ cur : Array Value, w.heap[g]? = some (.cells cur 60 (0, 0)) ∧ cur.size = c * 3 := by
        rcases ho.2 with ⟨h', _⟩ | ⟨g', cap', cur, h', _, hg, _, _, hcs, _⟩
        · simp at h'
        · simp only [Value.slice.injEq, Option.some.injEq, Addr.mk.injEq, and_true, true_and] at h'
          obtain ⟨rfl, rfl⟩ := h'
          exact ⟨cur, hg, hcs⟩
      refine (insertK_shift g n c i vb x vm vn hm1 hm2 xs w hi hroom hn (by unfold maxLen at hcm; omega) hne hlen hcs (fun j hj => by rw [hoy.cellAt j hj, List.getElem?_eq_getElem (by omega)]; rfl) (fun j _ => blk_free hcur j) hv h1c 60 cur.size (by simp [World.shape?, hcur]) (by omega)).mono ?_
      rintro e w' ⟨rfl, rfl⟩
      have hd : w.drew.ownsRow base 60 3 (.slice (some ⟨g, 0, none⟩) (n + 1) c) (n + 1) ys := hoy
      obtain ⟨o1, g1⟩ := own_setCells (xs.drop (i * 3)) ((i + 1) * 3) w.drew ys hd
      obtain ⟨o2, g2⟩ := own_setCells [.int .i64 x, vm, vn] (i * 3) _ _ o1
      rw [insK_shift hyl hlen hyt hi] at o2
      exact ⟨_, rfl, o2, ⟨g2.os.trans g1.os, g2.tape.trans g1.tape, g2.output.trans g1.output, Nat.le_trans g1.size g2.size, fun k hk hne => (g2.block k (Nat.lt_of_lt_of_le hk g1.size) hne).trans (g1.block k hk hne)⟩, fun _ h => .inl h⟩
    · refine (insertK_grow g n c i vb x vm vn hm1 hm2 xs w hi hnc (by omega) hn hlen hcs hv h1c).mono ?_
      rintro e w' ⟨rfl, rfl⟩
      obtain ⟨G, hG⟩ : ∃ G, G = grownCap w (n + 1) c 60 := ⟨_, rfl⟩
      have hGn : n + 1 ≤ G := by rw [hG]; exact grownCap_ge w _ _ _
      have hGm : G ≤ maxLen := by rw [hG]; exact grownCap_le_maxLen w (n + 1) c 60 (by unfold maxLen; omega)
      rw [← hG]
      have hzl : ∀ k, (Builtin.zeroCells (Value.agg #[.int .i64 0, .slice none 0 0, .slice none 0 0]).cells k).size = k * 3 := fun k => by simp [Builtin.zeroCells, Value.cells]; try omega
      have hA : (w.alloc (.cells ((xs.take (i * 3)).toArray ++ Builtin.zeroCells (Value.agg #[.int .i64 0, .slice none 0 0, .slice none 0 0]).cells (n + 1 - i) ++ Builtin.zeroCells (Value.agg #[.int .i64 0, .slice none 0 0, .slice none 0 0]).cells (G - (n + 1))) 60)).drew.ownsRow base 60 3 (.slice (some ⟨w.heap.size, 0, none⟩) (n + 1) G) (n + 1) (xs.take (i * 3) ++ (Builtin.zeroCells (Value.agg #[.int .i64 0, .slice none 0 0, .slice none 0 0]).cells (n + 1 - i)).toList) := by
        have ht : (xs.take (i * 3)).length = i * 3 := by rw [List.length_take, hlen]; omega
        have hl : (xs.take (i * 3) ++ (Builtin.zeroCells (Value.agg #[.int .i64 0, .slice none 0 0, .slice none 0 0]).cells (n + 1 - i)).toList).length = (n + 1) * 3 := by
          rw [List.length_append, ht, Array.length_toList, hzl]; omega
        refine ⟨hl, .inr ⟨w.heap.size, G, _, rfl, hb, heap_alloc_new w _, hGn, hGm, ?_, ?_⟩⟩
        · rw [Array.size_append, Array.size_append, hzl, hzl, List.size_toArray, ht]; omega
        · rw [Array.toList_append, Array.toList_append, List.toList_toArray, ← hl]
          exact List.take_left
      have hbl := push (Below.refl w.heap.size w) (.cells ((xs.take (i * 3)).toArray ++ Builtin.zeroCells (Value.agg #[.int .i64 0, .slice none 0 0, .slice none 0 0]).cells (n + 1 - i) ++ Builtin.zeroCells (Value.agg #[.int .i64 0, .slice none 0 0, .slice none 0 0]).cells (G - (n + 1))) 60)
      generalize w.alloc (.cells ((xs.take (i * 3)).toArray ++ Builtin.zeroCells (Value.agg #[.int .i64 0, .slice none 0 0, .slice none 0 0]).cells (n + 1 - i) ++ Builtin.zeroCells (Value.agg #[.int .i64 0, .slice none 0 0, .slice none 0 0]).cells (G - (n + 1))) 60) = WA at hA hbl ⊢
      obtain ⟨o1, g1⟩ := own_setCells [.int .i64 x, vm, vn] (i * 3) _ _ hA
      generalize WA.drew.setCells w.heap.size (i * 3) [.int .i64 x, vm, vn] = WB at o1 g1 ⊢
      obtain ⟨o2, g2⟩ := own_setCells (xs.drop (i * 3)) ((i + 1) * 3) WB.drew _ (show WB.drew.ownsRow _ _ _ _ _ _ from o1)
      rw [insK_grow (by rw [Array.length_toList, hzl]) hlen hi] at o2
      have s1 : WA.heap.size ≤ WB.heap.size := g1.size
      have s2 : WB.heap.size ≤ (WB.drew.setCells w.heap.size ((i + 1) * 3) (xs.drop (i * 3))).heap.size := g2.size
      have s0 := hbl.size
      refine ⟨_, rfl, o2, ⟨g2.os.trans (g1.os.trans hbl.os), g2.tape.trans (g1.tape.trans hbl.tape), g2.output.trans (g1.output.trans hbl.output), by omega, fun k hk hne => ?_⟩, fun g h => .inr (by simp only [Value.ownBlock, Option.some.injEq] at h; omega)⟩
      have hkn : some k ≠ some w.heap.size := fun h => by cases h; omega
      have b2 : _ = WB.heap[k]? := g2.block k (show k < WB.heap.size by omega) hkn
      have b1 : WB.heap[k]? = WA.heap[k]? := g1.block k (show k < WA.heap.size by omega) hkn
      exact b2.trans (b1.trans (hbl.block k hk))

end Go.Proofs.Ytdmkpflphjemoaa

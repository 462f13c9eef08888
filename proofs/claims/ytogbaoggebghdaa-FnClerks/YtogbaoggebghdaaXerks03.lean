/-
  OWN TEXT: OwnAny, MarkAns, KitAsk.
-/
import Derived.Deep.Slices
import Derived.Test.YtogbaoggebghdaaB00
import Derived.Test.YtogbaoggebghdaaXerks02
import Derived.Test.YtogbaoggebghdaaB05
import Derived.Test.YtogbaoggebghdaaB19
import Derived.Test.YtogbaoggebghdaaB11
namespace Go.Proofs.Ytogbaoggebghdaa
open Go.RowKit

/-- The block b, from base on, is a row of n elements, of a form. -/
def OwnAny (w : World) (base t sz b n : Nat) (Q : List Value → Prop) : Prop := ∃ xs, Q xs ∧ w.ownsRow base t sz (.slice (some ⟨b, 0, none⟩) n n) n xs
theorem own_block {w : World} {base t sz b n : Nat} {xs : List Value} (h : w.ownsRow base t sz (.slice (some ⟨b, 0, none⟩) n n) n xs) : ∃ cur, w.heap[b]? = some (.cells cur t (0, 0)) ∧ cur.size = n * sz := by
  rcases h.2 with ⟨h0, _⟩ | ⟨g, cap, cur, hv, _, hg, _, _, hs, _⟩
  · cases h0
  · simp only [Value.slice.injEq, Option.some.injEq, Addr.mk.injEq] at hv
    obtain ⟨⟨rfl, _, _⟩, _, rfl⟩ := hv
    exact ⟨cur, hg, hs⟩
theorem OwnAny.lt {w : World} {base t sz b n : Nat} {Q : List Value → Prop} (h : OwnAny w base t sz b n Q) : b < w.heap.size := by
  obtain ⟨xs, _, ho⟩ := h
  obtain ⟨cur, hg, _⟩ := own_block ho
  exact blk_lt hg
/-- Another row, or itself, is marked. -/
theorem OwnAny.after {w w' : World} {base t sz b n t' sz' g n' : Nat} {Q Q' : List Value → Prop} (h : OwnAny w base t sz b n Q) (hg : OwnAny w base t' sz' g n' Q') (hk : Kept w w' (fun x => x = g)) (hz : 0 < sz) (he : t = t' → sz = sz') (hs : t = t' → n = n' → OwnAny w' base t sz g n Q) : OwnAny w' base t sz b n Q := by
  by_cases e : b = g
  · subst e
    obtain ⟨xs, hq, ho⟩ := h
    obtain ⟨ys, hq', ho'⟩ := hg
    obtain ⟨c1, g1, s1⟩ := own_block ho
    obtain ⟨c2, g2, s2⟩ := own_block ho'
    rw [g1] at g2
    simp only [Option.some.injEq, Obj.cells.injEq] at g2
    obtain ⟨rfl, rfl, _⟩ := g2
    obtain rfl := he rfl
    exact hs rfl (Nat.eq_of_mul_eq_mul_right hz (s1.symm.trans s2))
  · obtain ⟨xs, hq, ho⟩ := h
    exact ⟨xs, hq, hk.own ho (fun b' hb' e' => by simp only [Value.ownBlock, Option.some.injEq] at hb'; omega)⟩
theorem OwnAny.kept {w w' : World} {base t sz b n : Nat} {Q : List Value → Prop} {T : Nat → Prop} (h : OwnAny w base t sz b n Q) (hk : Kept w w' T) (hT : ¬ T b) : OwnAny w' base t sz b n Q := by
  obtain ⟨xs, hq, ho⟩ := h
  exact ⟨xs, hq, hk.own ho (fun b' hb' e' => by simp only [Value.ownBlock, Option.some.injEq] at hb'; subst hb'; exact hT e')⟩

end Go.Proofs.Ytogbaoggebghdaa

namespace Go.Proofs.Ytogbaoggebghdaa
open Go.RowKit Classical

section
variable {w w' : World} {base : Nat} {v : Value} {N : Nat} {S : Nat → ClkD} {R : Nat → Value}
theorem OwnClks.blocks (h : OwnClks w base v N S R) : ∀ b, ckBlocks v N R b → base ≤ b ∧ b < w.heap.size := by
  rintro b (hb | ⟨i, hi, hb⟩)
  · exact h.row.lt b hb
  · exact (h.rows i hi).lt b hb
theorem OwnClks.keep {T : Nat → Prop} (h : OwnClks w base v N S R) (hk : Kept w w' T) (hT : ∀ b, ckBlocks v N R b → ¬ T b) : OwnClks w' base v N S R :=
  ⟨hk.own h.row (fun g hg s => hT g (.inl hg) s), fun i hi => hk.own (h.rows i hi) (fun g hg s => hT g (.inr ⟨i, hi, hg⟩) s), h.apart⟩
end
theorem settle_short {N : Nat} {S : Nat → ClkD} {nm : ByteArray} {a : AnsD} {N' : Nat} {S' : Nat → ClkD} {z : Int} (h : SettleIs N S nm a N' S' z) (hN : N ≤ 1048576) (hs : ClkDsShort N S 1048576) (ha : AnsD.Short a 1048576) : N' ≤ 1048576 ∧ ClkDsShort N' S' 1048576 := by
  rcases h with ⟨_, rfl, _⟩ | ⟨_, rfl, p, _, h⟩
  · exact ⟨Nat.zero_le _, fun i hi => absurd hi (Nat.not_lt_zero _)⟩
  refine ⟨hN, fun i hi => ?_⟩
  rcases h with ⟨k, hk, _, _, _, hS⟩ | ⟨_, _, hS⟩
  · rw [hS i hi]
    by_cases e : i = k
    · subst e; rw [putC_at]; exact ⟨(hs i hi).1, ha⟩
    · rw [putC_ne _ _ _ e]; exact hs i hi
  · rw [hS i hi]; exact hs i hi

set_option maxHeartbeats 1600000 in
theorem markAnswer_own (code anam price : Int) (ao : Option Addr) (n c base : Nat) (z : Int) (T : Nat → MRow) (w : World) (hn : n ≤ 2097152) (h0 : 0 ≤ z) (h1 : z ≤ 100000000000000) (ho : w.ownsRow base 84 5 (.slice ao n c) n (rowList T n)) :
    Calls Try.prog 21 #[.agg #[.int .i64 code, .int .i64 anam, .int .i64 price, .slice ao n c], .int .i64 z] w fun e w' => e = .returned (.int .i64 (z + 5 * n)) ∧ w'.ownsRow base 84 5 (.slice ao n c) n (rowList (rowMark z.toNat) n) ∧ Kept w w' (fun b => (Value.slice ao n c).ownBlock = some b) := by
  have bX := heap_alloc_new w (.cells #[.int .i64 code, .int .i64 anam, .int .i64 price, .slice ao n c] 28)
  have hb0 : Below w.heap.size w (w.alloc (.cells #[.int .i64 code, .int .i64 anam, .int .i64 price, .slice ao n c] 28)) := push (Below.refl _ _) _
  have x3 := blk_cell bX 3 _ rfl
  have HO : Hid (w.ownsRow base 84 5 (.slice ao n c) n (rowList T n)) := ho
  clear ho
  go_enter Try.func21, Try.ntmps21
  go_wp2_with fail
  refine (markRowS_ownI ao n c base z T _ hn h0 h1 (own_below hb0 HO.out)).mono ?_
  rintro e w2 ⟨rfl, ho2, hk2⟩
  go_wp2
  go_ret
  exact ⟨rfl, ho2, (Kept.of_below (S := fun b => (Value.slice ao n c).ownBlock = some b) hb0).trans hk2⟩

set_option maxHeartbeats 1600000 in
theorem heldAnswer_yes (code anam price : Int) (ao : Option Addr) (n c k0 : Nat) (w : World) (hn : n ≤ 2097152) (h1 : k0 ≤ 100000000000000) (hz : MRowsAt w ao n (rowMark k0)) :
    Calls Try.prog 23 #[.agg #[.int .i64 code, .int .i64 anam, .int .i64 price, .slice ao n c], .int .i64 k0] w fun e w' => e = .returned (.int .i64 ((k0 : Int) + 5 * n)) ∧ Below w.heap.size w w' := by
  have hb0 : Below w.heap.size w (w.alloc (.cells #[.int .i64 code, .int .i64 anam, .int .i64 price, .slice ao n c] 28)) := push (Below.refl _ _) _
  have e0 : decide ((k0 : Int) + 5 * (n : Int) < 0) = false := by simp; omega
  go_enter Try.func23, Try.ntmps23
  go_wp2_with fail
  refine (heldRowS_yes ao n c k0 _ hn h1 (hz.below hb0)).mono ?_
  rintro e w1 ⟨rfl, hb1⟩
  go_wp2
  go_ret
  exact ⟨rfl, after hb0 hb1⟩

end Go.Proofs.Ytogbaoggebghdaa

namespace Go.Proofs.Ytogbaoggebghdaa
open Go.RowKit Classical

def freshC (nm : ByteArray) (num : Int) : ClkD := ⟨nm, num, true, 0, 0, 0, 0, fun _ => MRow.zero⟩
def ansZero : AnsD := ⟨0, 0, 0, 0, fun _ => MRow.zero⟩
def ClkD.ans (c : ClkD) : AnsD := ⟨c.code, c.anam, c.price, c.rwn, c.rw⟩
/-- The place at which the name belongs. -/
def InsAt (N : Nat) (S : Nat → ClkD) (nm : ByteArray) (k : Nat) : Prop := k ≤ N ∧ (∀ j, j < k → textLt (S j).nam nm) ∧ (k < N → ¬ textLt (S k).nam nm)
def AskBad (N : Nat) (nm : ByteArray) (num p : Int) : Prop := ¬ IsName nm ∨ ¬ In num 1 1000000 ∨ (p < 0 ∧ (N = 20 ∨ num ≠ 1))
def AskAt (N : Nat) (S : Nat → ClkD) (k : Nat) (nm : ByteArray) (num : Int) (S' : Nat → ClkD) (a : AnsD) (z : Int) : Prop :=
  (num < (S k).num ∧ (∀ i, i < N → S' i = S i) ∧ a = ansZero ∧ z = 3) ∨
  ((S k).num + 1 < num ∧ (∀ i, i < N → S' i = S i) ∧ a = ansZero ∧ z = 4) ∨
  ((S k).num ≤ num ∧ num ≤ (S k).num + 1 ∧ (S k).opn = true ∧ (∀ i, i < N → S' i = S i) ∧ a = ansZero ∧ z = 5) ∨
  (num = (S k).num ∧ (S k).opn = false ∧ (∀ i, i < N → S' i = S i) ∧ a = (S k).ans ∧ z = 1) ∨
  (num = (S k).num + 1 ∧ (S k).opn = false ∧ (∀ i, i < N → S' i = putC S k (freshC nm num) i) ∧ a = ansZero ∧ z = 0)
/-- What AskClerk answers: N' clerks S', the answer a and the code z. -/
def AskIs (N : Nat) (S : Nat → ClkD) (nm : ByteArray) (num : Int) (N' : Nat) (S' : Nat → ClkD) (a : AnsD) (z : Int) : Prop :=
  (¬ ClerksOk N S ∧ N' = 0 ∧ a = ansZero ∧ z = 2) ∨
  (ClerksOk N S ∧ ∃ p, AtC N S nm p ∧
    ((AskBad N nm num p ∧ N' = N ∧ (∀ i, i < N → S' i = S i) ∧ a = ansZero ∧ z = 2) ∨
     (¬ AskBad N nm num p ∧ p < 0 ∧ N' = N + 1 ∧ (∃ k, InsAt N S nm k ∧ ∀ i, i < N + 1 → S' i = insC S k (freshC nm num) i) ∧ a = ansZero ∧ z = 0) ∨
     (¬ AskBad N nm num p ∧ N' = N ∧ ∃ k : Nat, k < N ∧ p = k ∧ AskAt N S k nm num S' a z)))
theorem InsAt.one {N : Nat} {S : Nat → ClkD} {nm : ByteArray} {k j : Nat} (h : InsAt N S nm k) (h' : InsAt N S nm j) : k = j := by
  rcases Nat.lt_trichotomy k j with e | e | e
  · exact absurd (h'.2.1 k e) (h.2.2 (by have := h'.1; omega))
  · exact e
  · exact absurd (h.2.1 j e) (h'.2.2 (by have := h.1; omega))
theorem AskAt.one {N k : Nat} {S : Nat → ClkD} {nm : ByteArray} {num : Int} {S1 S2 : Nat → ClkD} {a1 a2 : AnsD} {z1 z2 : Int} (h : AskAt N S k nm num S1 a1 z1) (h' : AskAt N S k nm num S2 a2 z2) : z2 = z1 ∧ a2 = a1 ∧ ∀ i, i < N → S2 i = S1 i := by
  rcases h with ⟨b, hS, rfl, rfl⟩ | ⟨b, hS, rfl, rfl⟩ | ⟨b, b', o, hS, rfl, rfl⟩ | ⟨b, o, hS, rfl, rfl⟩ | ⟨b, o, hS, rfl, rfl⟩ <;>
  rcases h' with ⟨c, hS', rfl, rfl⟩ | ⟨c, hS', rfl, rfl⟩ | ⟨c, c', o', hS', rfl, rfl⟩ | ⟨c, o', hS', rfl, rfl⟩ | ⟨c, o', hS', rfl, rfl⟩ <;>
  first
    | (exfalso; omega)
    | (exfalso; rw [o] at o'; cases o'; done)
    | exact ⟨rfl, rfl, fun i hi => by rw [hS' i hi, hS i hi]⟩
theorem AskIs.one {N : Nat} {S : Nat → ClkD} {nm : ByteArray} {num : Int} {N1 N2 : Nat} {S1 S2 : Nat → ClkD} {a1 a2 : AnsD} {z1 z2 : Int} (h : AskIs N S nm num N1 S1 a1 z1) (h' : AskIs N S nm num N2 S2 a2 z2) : N2 = N1 ∧ z2 = z1 ∧ a2 = a1 ∧ ∀ i, i < N1 → S2 i = S1 i := by
  rcases h with ⟨n, rfl, rfl, rfl⟩ | ⟨y, p, hp, h⟩
  · rcases h' with ⟨_, rfl, rfl, rfl⟩ | ⟨y, _⟩
    · exact ⟨rfl, rfl, rfl, fun i hi => absurd hi (Nat.not_lt_zero _)⟩
    · exact absurd y n
  · rcases h' with ⟨n, _⟩ | ⟨_, q, hq, h'⟩
    · exact absurd y n
    obtain rfl := hp.one hq
    rcases h with ⟨b, rfl, hS, rfl, rfl⟩ | ⟨b, m, rfl, ⟨k, hk, hS⟩, rfl, rfl⟩ | ⟨b, rfl, k, hk, e, ha⟩
    · rcases h' with ⟨_, rfl, hS', rfl, rfl⟩ | ⟨b', _⟩ | ⟨b', _⟩
      · exact ⟨rfl, rfl, rfl, fun i hi => by rw [hS' i hi, hS i hi]⟩
      · exact absurd b b'
      · exact absurd b b'
    · rcases h' with ⟨b', _⟩ | ⟨_, _, rfl, ⟨j, hj, hS'⟩, rfl, rfl⟩ | ⟨_, _, j, hj, e', _⟩
      · exact absurd b' b
      · obtain rfl := hk.one hj
        exact ⟨rfl, rfl, rfl, fun i hi => by rw [hS' i hi, hS i hi]⟩
      · omega
    · rcases h' with ⟨b', _⟩ | ⟨_, m', _⟩ | ⟨_, rfl, j, hj, e', ha'⟩
      · exact absurd b' b
      · omega
      · obtain rfl : k = j := by omega
        obtain ⟨h1, h2, h3⟩ := ha.one ha'
        exact ⟨rfl, h1, h2, h3⟩
theorem ask_short {N : Nat} {S : Nat → ClkD} {nm : ByteArray} {num : Int} {N' : Nat} {S' : Nat → ClkD} {a : AnsD} {z : Int} (h : AskIs N S nm num N' S' a z) (hN : N ≤ 1048576) (hs : ClkDsShort N S 1048576) (hn : nm.size ≤ 1048576) : N' ≤ 1048577 ∧ (N' ≤ 1048576) ∧ ClkDsShort N' S' 1048576 ∧ AnsD.Short a 1048576 := by
  have hz : AnsD.Short ansZero 1048576 := ⟨Nat.zero_le _, fun k hk => absurd hk (Nat.not_lt_zero _)⟩
  have hf : ClkD.Short (freshC nm num) 1048576 := ⟨hn, Nat.zero_le _, fun k hk => absurd hk (Nat.not_lt_zero _)⟩
  rcases h with ⟨_, rfl, rfl, _⟩ | ⟨y, p, _, h⟩
  · exact ⟨Nat.zero_le _, Nat.zero_le _, fun i hi => absurd hi (Nat.not_lt_zero _), hz⟩
  have h20 := y.1
  rcases h with ⟨_, rfl, hS, rfl, _⟩ | ⟨_, _, rfl, ⟨k, hk, hS⟩, rfl, _⟩ | ⟨_, rfl, k, hk, _, ha⟩
  · exact ⟨by omega, hN, fun i hi => by rw [hS i hi]; exact hs i hi, hz⟩
  · refine ⟨by omega, by omega, fun i hi => ?_, hz⟩
    rw [hS i hi]
    rcases Nat.lt_trichotomy i k with e | e | e
    · rw [insC_lt _ _ _ e]; exact hs i (by have := hk.1; omega)
    · subst e; rw [insC_at]; exact hf
    · rw [insC_gt _ _ _ e]; exact hs (i - 1) (by omega)
  · refine ⟨by omega, hN, fun i hi => ?_, ?_⟩
    · rcases ha with ⟨_, hS, _⟩ | ⟨_, hS, _⟩ | ⟨_, _, _, hS, _⟩ | ⟨_, _, hS, _⟩ | ⟨_, _, hS, _⟩
      · rw [hS i hi]; exact hs i hi
      · rw [hS i hi]; exact hs i hi
      · rw [hS i hi]; exact hs i hi
      · rw [hS i hi]; exact hs i hi
      · rw [hS i hi]
        by_cases e : i = k
        · subst e; rw [putC_at]; exact hf
        · rw [putC_ne _ _ _ e]; exact hs i hi
    · rcases ha with ⟨_, _, rfl, _⟩ | ⟨_, _, rfl, _⟩ | ⟨_, _, _, _, rfl, _⟩ | ⟨_, _, _, rfl, _⟩ | ⟨_, _, _, rfl, _⟩
      · exact hz
      · exact hz
      · exact hz
      · exact (hs k hk).2
      · exact hz

end Go.Proofs.Ytogbaoggebghdaa

/-
  OWN TEXT: the contracts of laws.markSlotS, laws.heldSlotS, laws.markArena, laws.heldArena.
-/
import Derived.Test.YteniifnhbogbkaeArena
import Derived.Test.YteniifnhbogbkaeMarkInts
namespace Go.Proofs.Yteniifnhbogbkae
open Go.RowKit

/-- What markSlotS lays into slot j. -/
def mkA (k0 : Int) (j : Nat) : Int := k0 + 3 * j
def mkU (k0 : Int) (j : Nat) : Bool := (k0 + 3 * j + 1) % 3 == 0
def mkV (k0 : Int) (j : Nat) : Int := k0 + 3 * j + 1 + 1

/-- f below t, g from t on. -/
def upon {α : Type} (t : Nat) (f g : Nat → α) (i : Nat) : α := if i < t then f i else g i
theorem upon_at {α : Type} (t : Nat) (f g : Nat → α) : upon (t + 1) f g t = f t := if_pos (by omega)
theorem upon_ne {α : Type} (t : Nat) (f g : Nat → α) (i : Nat) (h : i ≠ t) : upon (t + 1) f g i = upon t f g i := by
  unfold upon; by_cases h2 : i < t
  · rw [if_pos h2, if_pos (by omega)]
  · rw [if_neg h2, if_neg (by omega)]

theorem upon_lt {α : Type} {t i : Nat} (f g : Nat → α) (h : i < t) : upon t f g i = f i := if_pos h
theorem slotCell_congr {A A' : Nat → Int} {U U' : Nat → Bool} {V V' : Nat → Int} {j : Nat} (hA : A (j / 3) = A' (j / 3)) (hU : U (j / 3) = U' (j / 3)) (hV : V (j / 3) = V' (j / 3)) : slotCell A U V j = slotCell A' U' V' j := by
  unfold slotCell; rw [hA, hU, hV]

/-- A slot is stored into an owned row. -/
theorem own_slot {w : World} {base e g n cap N k : Nat} {A A' : Nat → Int} {U U' : Nat → Bool} {V V' : Nat → Int} (h : w.ownsRow base e 3 (.slice (some ⟨g, 0, none⟩) n cap) n ((List.range N).map (slotCell A U V)))
    (hA : ∀ i, i ≠ k → A' i = A i) (hU : ∀ i, i ≠ k → U' i = U i) (hV : ∀ i, i ≠ k → V' i = V i) :
    (((w.setCell ⟨g, k * 3, none⟩ (.int .i64 (A' k))).setCell ⟨g, k * 3 + 1, none⟩ (.bool (U' k))).setCell ⟨g, k * 3 + 2, none⟩ (.int .i64 (V' k))).ownsRow base e 3 (.slice (some ⟨g, 0, none⟩) n cap) n ((List.range N).map (slotCell A' U' V')) := by
  refine own_congr (own_store (own_store (own_store h (k * 3) _) (k * 3 + 1) _) (k * 3 + 2) _) fun j _ => ?_
  by_cases h2 : j = k * 3 + 2
  · subst h2; rw [if_pos rfl, slotCell_2]
  · rw [if_neg h2]
    by_cases h1 : j = k * 3 + 1
    · subst h1; rw [if_pos rfl, slotCell_1]
    · rw [if_neg h1]
      by_cases h0 : j = k * 3
      · subst h0; rw [if_pos rfl, slotCell_0]
      · rw [if_neg h0]
        have hk : j / 3 ≠ k := by omega
        unfold slotCell
        rw [hA _ hk, hU _ hk, hV _ hk]

set_option maxHeartbeats 800000 in
theorem markSlotS_own (ao : Option Addr) (n c base : Nat) (A : Nat → Int) (U : Nat → Bool) (V : Nat → Int) (k0 : Int) (w : World) (hn : n ≤ 4194304) (h0 : 0 ≤ k0) (h1 : k0 ≤ 4194304) (ho : w.ownsRow base 68 3 (.slice ao n c) n (slotList A U V n)) :
    Calls Try.prog 45 #[.slice ao n c, .int .i64 k0] w fun e w' => e = .returned (.int .i64 (k0 + 3 * n)) ∧ w'.ownsRow base 68 3 (.slice ao n c) n (slotList (mkA k0) (mkU k0) (mkV k0) n) ∧ Kept w w' (fun b => ∃ g, ao = some ⟨g, 0, none⟩ ∧ b = g) := by
  go_enter Try.func45, Try.ntmps45
  go_wp2
  go_loopw [1, 5] (fun q i wr => ∃ t : Nat, t ≤ n ∧ i = .int .i64 t ∧ q = .int .i64 (k0 + 3 * t) ∧ wr.ownsRow base 68 3 (.slice ao n c) n ((List.range (n * 3)).map (slotCell (upon t (mkA k0) A) (upon t (mkU k0) U) (upon t (mkV k0) V))) ∧ Kept w wr (fun b => ∃ g, ao = some ⟨g, 0, none⟩ ∧ b = g)) (fun _ i _ => n - (intOf i).toNat)
  case atStart => exact ⟨0, Nat.zero_le _, rfl, by simp, own_congr ho (by intro i _; rfl), Kept.refl _ _⟩
  case round =>
    obtain ⟨t, ht, rfl, rfl, hown, hk⟩ := hrel
    by_cases hlt : t < n
    · obtain ⟨g, rfl, hg1, hg2⟩ := own_addr hown (by omega)
      have hc0 := own_cell hown (t * 3) (by omega) rfl
      have hc1 := own_cell hown (t * 3 + 1) (by omega) rfl
      have hc2 := own_cell hown (t * 3 + 2) (by omega) rfl
      have hf0 := hown.frozenAt (t * 3)
      have hf1 := hown.frozenAt (t * 3 + 1)
      have hf2 := hown.frozenAt (t * 3 + 2)
      go_wp2
      go_roundw
      case rel =>
        refine ⟨t + 1, by omega, by go_num, by go_num, ?_, ((hk.set ⟨g, rfl, rfl⟩ _).set ⟨g, rfl, rfl⟩ _).set ⟨g, rfl, rfl⟩ _⟩
        have := own_slot (k := t) (A' := upon (t + 1) (mkA k0) A) (U' := upon (t + 1) (mkU k0) U) (V' := upon (t + 1) (mkV k0) V) hown (fun i h => upon_ne _ _ _ _ h) (fun i h => upon_ne _ _ _ _ h) (fun i h => upon_ne _ _ _ _ h)
        rw [upon_at, upon_at, upon_at] at this
        exact this
      case measure => simp [intOf]; omega
    · have : t = n := by omega
      subst this
      go_wp2
      go_ret
      exact ⟨rfl, own_congr hown (fun i hi => slotCell_congr (upon_lt _ _ (by omega)) (upon_lt _ _ (by omega)) (upon_lt _ _ (by omega))), hk⟩

set_option maxHeartbeats 800000 in
theorem heldSlotS_yes (ao : Option Addr) (n c : Nat) (k0 : Int) (w : World) (hn : n ≤ 4194304) (h0 : 0 ≤ k0) (h1 : k0 ≤ 4194304) (hz : SlotsAt w ao n (mkA k0) (mkU k0) (mkV k0)) :
    Calls Try.prog 47 #[.slice ao n c, .int .i64 k0] w fun e w' => e = .returned (.int .i64 (k0 + 3 * n)) ∧ Below w.heap.size w w' := by
  go_enter Try.func47, Try.ntmps47
  go_wp2
  go_loopw [1, 5] (fun q i wr => ∃ t : Nat, t ≤ n ∧ i = .int .i64 t ∧ q = .int .i64 (k0 + 3 * t) ∧ Below w.heap.size w wr) (fun _ i _ => n - (intOf i).toNat)
  case atStart => exact ⟨0, Nat.zero_le _, rfl, by simp, Below.refl _ _⟩
  case round =>
    obtain ⟨t, ht, rfl, rfl, hbel⟩ := hrel
    by_cases hlt : t < n
    · obtain ⟨b, off, rfl, g1, g2, g3⟩ := hz t hlt
      have hb := World.block_lt_of_cell? w _ g1
      have s1 := (hbel.cell (p := ⟨b, off + t * 3, none⟩) hb).trans g1
      have s2 := (hbel.cell (p := ⟨b, off + t * 3 + 1, none⟩) hb).trans g2
      have s3 := (hbel.cell (p := ⟨b, off + t * 3 + 2, none⟩) hb).trans g3
      clear g1 g2 g3
      unfold mkA at s1
      unfold mkU at s2
      unfold mkV at s3
      go_wp2
      go_roundw
      case rel => exact ⟨t + 1, by omega, by go_num, by go_num, hbel⟩
      case measure => simp [intOf]; omega
    · have : t = n := by omega
      subst this
      go_wp2
      go_ret
      exact ⟨rfl, hbel⟩

/-- The block at whose head an address lies. -/
def headOf (ao : Option Addr) (b : Nat) : Prop := ∃ g, ao = some ⟨g, 0, none⟩ ∧ b = g
/-- One of two. -/
def headsOf (ao bo : Option Addr) (b : Nat) : Prop := headOf ao b ∨ headOf bo b
theorem head_own {ao : Option Addr} {n c b : Nat} : headOf ao b ↔ ∃ g, ao = some ⟨g, 0, none⟩ ∧ (Value.slice ao n c).ownBlock = some g ∧ b = g := by
  constructor
  · rintro ⟨g, rfl, rfl⟩; exact ⟨b, rfl, rfl, rfl⟩
  · rintro ⟨g, rfl, _, rfl⟩; exact ⟨b, rfl, rfl⟩
/-- The head of an owned row is one of its own blocks. -/
theorem head_ge {w : World} {base e size n c : Nat} {ao : Option Addr} {xs : List Value} (h : w.ownsRow base e size (.slice ao n c) n xs) : ∀ b, headOf ao b → base ≤ b ∧ b < w.heap.size := by
  rintro b ⟨g, rfl, rfl⟩
  exact h.lt b rfl
/-- Rows of different element types have different heads. -/
theorem heads_apart {w : World} {b1 e1 s1 n1 c1 b2 e2 s2 n2 c2 : Nat} {ao bo : Option Addr} {x1 x2 : List Value} (h1 : w.ownsRow b1 e1 s1 (.slice ao n1 c1) n1 x1) (h2 : w.ownsRow b2 e2 s2 (.slice bo n2 c2) n2 x2) (hne : e1 ≠ e2) : ∀ b, headOf ao b → ¬ headOf bo b := by
  rintro b ⟨g, rfl, rfl⟩ ⟨g', rfl, rfl⟩
  exact own_apart h1 h2 hne b rfl rfl
theorem own_head {v : Value} {ao : Option Addr} {n c g : Nat} (hv : v = .slice ao n c) {w : World} {base e size : Nat} {xs : List Value} (h : w.ownsRow base e size v n xs) (hg : v.ownBlock = some g) : headOf ao g := by
  subst hv
  rcases h.2 with ⟨h0, _⟩ | ⟨g', cap, cur, h0, _⟩
  · rw [h0] at hg; simp [Value.ownBlock] at hg
  · simp only [Value.slice.injEq, true_and] at h0
    obtain ⟨rfl, rfl⟩ := h0
    simp only [Value.ownBlock, Option.some.injEq] at hg
    exact ⟨g', rfl, hg.symm⟩

set_option maxHeartbeats 800000 in
theorem markArena_own (ao bo : Option Addr) (n m c1 c2 b1 b2 : Nat) (A : Nat → Int) (U : Nat → Bool) (V F : Nat → Int) (k0 : Int) (w : World) (hn : n + m ≤ 1048576) (h0 : 0 ≤ k0) (h1 : k0 ≤ 1000)
    (ho1 : w.ownsRow b1 68 3 (.slice ao n c1) n (slotList A U V n)) (ho2 : w.ownsRow b2 3 1 (.slice bo m c2) m (intList F m)) :
    Calls Try.prog 19 #[.agg #[.slice ao n c1, .slice bo m c2], .int .i64 k0] w fun e w' => e = .returned (.int .i64 (k0 + 3 * n + m)) ∧
      w'.ownsRow b1 68 3 (.slice ao n c1) n (slotList (mkA k0) (mkU k0) (mkV k0) n) ∧ w'.ownsRow b2 3 1 (.slice bo m c2) m (intList (fun j => k0 + 3 * n + j) m) ∧ Kept w w' (headsOf ao bo) := by
  have hk0 : Kept w (w.alloc (.cells #[.slice ao n c1, .slice bo m c2] 39)) (headsOf ao bo) := Kept.of_below (push (Below.refl _ _) _)
  have hA0 : (w.alloc (.cells #[.slice ao n c1, .slice bo m c2] 39)).heap[w.heap.size]? = some (.cells #[.slice ao n c1, .slice bo m c2] 39 (0, 0)) := heap_alloc_new w _
  have hap := heads_apart ho1 ho2 (by decide)
  have hl1 := head_ge ho1
  go_enter Try.func19, Try.ntmps19
  go_wp2_with fail
  refine (markSlotS_own ao n c1 b1 A U V k0 _ (by omega) h0 (by omega) (ho1.alloc _)).mono ?_
  rintro e w1 ⟨rfl, p1, hk1⟩
  have p2 := hk1.own (ho2.alloc _) (fun g hg hs => hap g hs (own_head rfl ho2 hg))
  have hA1 := hk1.blk hA0 (fun hs => by have := (hl1 _ hs).2; omega)
  have hk2 := hk0.trans (hk1.mono (fun b h => Or.inl h))
  clear hk0 hk1 hA0 ho1 ho2
  have q1 := blk_cell hA1 1 _ rfl
  have HP : Hid (∀ b, headOf ao b → ¬ headOf bo b) := hap
  clear hap hl1
  go_wp2_with fail
  refine (markIntS_own bo m c2 b2 F (k0 + 3 * n) _ (by omega) (by omega) (by omega) p2).mono ?_
  rintro e w2 ⟨rfl, p3, hk3⟩
  go_wp2
  go_ret
  exact ⟨rfl, hk3.own p1 (fun g hg hs => HP.out g (own_head rfl p1 hg) hs), p3, hk2.trans (hk3.mono (fun b h => Or.inr h))⟩

set_option maxHeartbeats 800000 in
theorem heldArena_yes (ao bo : Option Addr) (n m c1 c2 : Nat) (k0 : Int) (w : World) (hn : n + m ≤ 1048576) (h0 : 0 ≤ k0) (h1 : k0 ≤ 1000)
    (hx : SlotsAt w ao n (mkA k0) (mkU k0) (mkV k0)) (hy : IntsAt w bo m (fun j => k0 + 3 * n + j)) :
    Calls Try.prog 20 #[.agg #[.slice ao n c1, .slice bo m c2], .int .i64 k0] w fun e w' => e = .returned (.int .i64 (k0 + 3 * n + m)) ∧ Below w.heap.size w w' := by
  have hb0 : Below w.heap.size w (w.alloc (.cells #[.slice ao n c1, .slice bo m c2] 39)) := push (Below.refl _ _) _
  have hA0 : (w.alloc (.cells #[.slice ao n c1, .slice bo m c2] 39)).heap[w.heap.size]? = some (.cells #[.slice ao n c1, .slice bo m c2] 39 (0, 0)) := heap_alloc_new w _
  go_enter Try.func20, Try.ntmps20
  go_wp2_with fail
  refine (heldSlotS_yes ao n c1 k0 _ (by omega) h0 (by omega) (hx.below hb0)).mono ?_
  rintro e w1 ⟨rfl, hb1⟩
  have hA1 := blk_below hA0 hb1
  have hb2 := after hb0 hb1
  clear hA0 hb0 hb1
  have q1 := blk_cell hA1 1 _ rfl
  go_wp2_with fail
  refine (heldIntS_yes bo m c2 (k0 + 3 * n) _ (by omega) (by omega) (by omega) (hy.below hb2)).mono ?_
  rintro e w2 ⟨rfl, rfl⟩
  go_wp2
  go_ret
  exact ⟨rfl, hb2⟩

end Go.Proofs.Yteniifnhbogbkae

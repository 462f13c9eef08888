/-
  OWN TEXT: FitS0, KitZ, DrawLi, KitFs, KitWs.
-/
import Derived.Deep.RegionHeld3
import Derived.Test.YtfallpinmhbemaaGreatDoorB08
import Derived.Test.YtfallpinmhbemaaGreatDoorB00
import Derived.Test.YtfallpinmhbemaaGreatDoorB05
import Derived.Test.YtfallpinmhbemaaGreatDoorB06
import Derived.Test.YtfallpinmhbemaaGreatDoorB07
import Derived.Test.YtfallpinmhbemaaGreatDoorB01
import Derived.Test.YtfallpinmhbemaaGreatDoorB03
import Derived.Test.YtfallpinmhbemaaGreatDoorB09
namespace Go.Proofs.YtfallpinmhbemaaGreatDoor
open Go.RowKit

set_option maxHeartbeats 800000 in
set_option maxRecDepth 100000 in
theorem l3At_any (ao : Option Addr) (N c : Nat) (S : Nat → Sail) (x : Int) (w : World) (hN : N ≤ 1048576) (hx : SailsAt w ao N S) :
    Calls Tryz.prog 110 #[.slice ao N c, .int .i64 x] w fun e w' => ((findIx S x N < N ∧ e = .returned (.int .i64 (findIx S x N))) ∨ (findIx S x N = N ∧ e = .returned (.int .i64 (-1)))) ∧ Below w.heap.size w w' := by
  go_enter Tryz.func110, Tryz.ntmps110
  go_wp2
  go_loopw [5, 6, 9] (fun _ _ i wr => ∃ k : Nat, k ≤ N ∧ i = .int .i64 k ∧ (∀ j, j < k → (S j).id ≠ x) ∧ Below w.heap.size w wr) (fun _ _ i _ => N - (intOf i).toNat)
  case atStart => exact ⟨0, Nat.zero_le _, rfl, fun j hj => by omega, Below.refl _ _⟩
  case round =>
    obtain ⟨k, hk, rfl, hall, hbel⟩ := hrel
    have HA : Hid (∀ j, j < k → (S j).id ≠ x) := hall
    clear hall
    by_cases hlt : k < N
    · obtain ⟨b, off, la, lc, ca, cc, rfl, h0, h1, h2, h3, h4, h5, h6, h7, _, _, _, _⟩ := hx k hlt
      have hb := World.block_lt_of_cell? w _ h1
      have c0 := (hbel.cell (p := ⟨b, off + k * 8, none⟩) hb).trans h0
      have c1 := (hbel.cell (p := ⟨b, off + k * 8 + 1, none⟩) hb).trans h1
      have c2 := (hbel.cell (p := ⟨b, off + k * 8 + 2, none⟩) hb).trans h2
      have c3 := (hbel.cell (p := ⟨b, off + k * 8 + 3, none⟩) hb).trans h3
      have c4 := (hbel.cell (p := ⟨b, off + k * 8 + 4, none⟩) hb).trans h4
      have c5 := (hbel.cell (p := ⟨b, off + k * 8 + 5, none⟩) hb).trans h5
      have c6 := (hbel.cell (p := ⟨b, off + k * 8 + 6, none⟩) hb).trans h6
      have c7 := (hbel.cell (p := ⟨b, off + k * 8 + 7, none⟩) hb).trans h7
      clear h0 h1 h2 h3 h4 h5 h6 h7
      by_cases he : (S k).id = x
      · have e1 : ((S k).id == x) = true := by simpa using he
        have HF : Hid (findIx S x N = k) := findIx_is hlt he HA.out
        clear he
        go_wp2
        go_ret
        exact ⟨.inl ⟨by rw [HF.out]; exact hlt, by rw [HF.out]; rfl⟩, push hbel _⟩
      · have e1 : ((S k).id == x) = false := by simpa using he
        have HE : Hid ((S k).id ≠ x) := he
        clear he
        go_wp2
        go_roundw
        case rel => exact ⟨k + 1, by omega, by go_num, fun j hj => by
          by_cases e : j = k
          · subst e; exact HE.out
          · exact HA.out j (by omega), push hbel _⟩
        case measure => simp [intOf]; omega
    · obtain rfl : k = N := by omega
      have HF : Hid (findIx S x k = k) := findIx_none HA.out
      go_wp2
      go_ret
      exact ⟨.inr ⟨HF.out, rfl⟩, hbel⟩

set_option maxHeartbeats 3200000 in
set_option maxRecDepth 100000 in
theorem l3Fit_any (ao bo : Option Addr) (N n c c' : Nat) (S : Nat → Sail) (G : Nat → Int) (w : World) (hN : N ≤ 1048576) (hn : n ≤ 1048576) (hx : SailsAt w ao N S) (hy : IntsAt w bo n G) :
    Calls Tryz.prog 99 #[.slice ao N c, .slice bo n c'] w fun e w' => SaysIf (LegsOk N S n G) e ∧ Below w.heap.size w w' := by
  by_cases g3 : In (n : Int) 1 3
  case neg =>
    have d3 : decide (In (n : Int) 1 3) = false := decide_eq_false g3
    have HN : Hid (¬ LegsOk N S n G) := fun h => g3 ⟨by have := h.1; omega, by have := h.2.1; omega⟩
    clear g3
    go_enter Tryz.func99, Tryz.ntmps99
    go_wp2_with (first | (go_at_call 19; refine (l1In_is _ _ _ _).mono ?_; rintro e w' ⟨rfl, hw'⟩; have hw' := hw'.symm; subst hw'))
    go_ret
    exact ⟨says_no HN.out, Below.refl _ _⟩
  have d3 : decide (In (n : Int) 1 3) = true := decide_eq_true g3
  have H3 : Hid (1 ≤ n ∧ n ≤ 3) := ⟨by have := g3.1; omega, by have := g3.2; omega⟩
  have hn3 : n ≤ 3 := H3.out.2
  clear g3
  go_enter Tryz.func99, Tryz.ntmps99
  go_wp2_with (first | (go_at_call 19; refine (l1In_is _ _ _ _).mono ?_; rintro e w' ⟨rfl, hw'⟩; have hw' := hw'.symm; subst hw'))
  go_loopw [5, 6, 7, 8, 15] (fun _ _ _ _ i wr => ∃ k : Nat, k ≤ n ∧ i = .int .i64 k ∧ (∀ j, j < k → LegOk N S G j) ∧ Below w.heap.size w wr) (fun _ _ _ _ i _ => n - (intOf i).toNat)
  case atStart => exact ⟨0, Nat.zero_le _, rfl, fun j hj => by omega, Below.refl _ _⟩
  case round =>
    obtain ⟨k, hk, rfl, hall, hbel⟩ := hrel
    have HA : Hid (∀ j, j < k → LegOk N S G j) := hall
    clear hall d3
    by_cases hlt : k < n
    · have HQ : Hid (0 < k → ∀ b off, bo = some ⟨b, off, none⟩ → w.cell? ⟨b, off + (k - 1), none⟩ = some (.int .i64 (G (k - 1)))) := by
        intro h b off e
        obtain ⟨b', off', e', g⟩ := hy (k - 1) (by omega)
        rw [e] at e'
        simp only [Option.some.injEq, Addr.mk.injEq, and_true] at e'
        obtain ⟨rfl, rfl⟩ := e'
        exact g
      obtain ⟨qb, qoff, rfl, hq⟩ := hy k hlt
      have HQ2 : Hid (0 < k → w.cell? ⟨qb, qoff + (k - 1), none⟩ = some (.int .i64 (G (k - 1)))) := fun h => HQ.out h qb qoff rfl
      clear HQ
      have hqb := World.block_lt_of_cell? w _ hq
      have p0 := (hbel.cell (p := ⟨qb, qoff + k, none⟩) hqb).trans hq
      clear hq
      go_wp2_with fail
      refine (l3At_any ao N c S (G k) _ hN (hx.below hbel)).mono ?_
      rintro e w2 ⟨hr, hb2⟩
      have hbel2 := after hbel hb2
      clear hb2 hbel p0
      rcases hr with ⟨hf, rfl⟩ | ⟨hf, rfl⟩
      · obtain ⟨x, hxx⟩ : ∃ x, x = findIx S (G k) N := ⟨_, rfl⟩
        rw [← hxx] at hf ⊢
        have HX : Hid (x = findIx S (G k) N) := hxx
        clear hxx
        by_cases k0 : k = 0
        · subst k0
          have dn : decide ((x : Int) < 0) = false := by simp
          go_wp2
          go_roundw
          case rel => exact ⟨1, by omega, by go_num, fun j hj => by
            obtain rfl : j = 0 := by omega
            exact ⟨by rw [← HX.out]; exact hf, fun h => by omega⟩, hbel2⟩
          case measure => simp [intOf]; omega
        · have dn : decide ((x : Int) < 0) = false := by simp
          have d0 : decide (0 < k) = true := by simp; omega
          have hk2 : ((k : Int) - 1).toNat = k - 1 := by omega
          have hk3 : (k : Int) - 1 < (n : Int) := by omega
          have hk4 : (0 : Int) ≤ (k : Int) - 1 := by omega
          have hk5 : IntKind.i64.wrap ((k : Int) - 1) = (k : Int) - 1 := by rw [IntKind.wrap_i64]; omega
          have y0 := (hbel2.cell (p := ⟨qb, qoff + (k - 1), none⟩) hqb).trans (HQ2.out (by omega))
          go_wp2_with fail
          refine (l3At_any ao N c S (G (k - 1)) _ hN (hx.below hbel2)).mono ?_
          rintro e w3 ⟨hr, hb3⟩
          have hbel3 := after hbel2 hb3
          have HP : Hid (findIx S (G (k - 1)) N < N) := (HA.out (k - 1) (by omega)).1
          clear hb3 hbel2 y0 dn d0
          rcases hr with ⟨hf2, rfl⟩ | ⟨hf2, rfl⟩
          · obtain ⟨y, hyy⟩ : ∃ y, y = findIx S (G (k - 1)) N := ⟨_, rfl⟩
            rw [← hyy] at hf2 ⊢
            have HY : Hid (y = findIx S (G (k - 1)) N) := hyy
            clear hyy
            have x1 : (x : Int) < (N : Int) := by omega
            have x0 : (0 : Int) ≤ (x : Int) := by omega
            have y1 : (y : Int) < (N : Int) := by omega
            have y0 : (0 : Int) ≤ (y : Int) := by omega
            have HXS := hx x hf
            obtain ⟨b, off, la, lc, ca, cc, rfl, h0, h1, h2, h3, h4, h5, h6, h7, _, _, _, _⟩ := hx y hf2
            obtain ⟨b', off', _, _, _, _, e', g0, g1, g2, g3, _⟩ := HXS
            simp only [Option.some.injEq, Addr.mk.injEq, and_true] at e'
            obtain ⟨rfl, rfl⟩ := e'
            have hb := World.block_lt_of_cell? w _ h1
            have c0 := (hbel3.cell (p := ⟨b, off + y * 8, none⟩) hb).trans h0
            have c1 := (hbel3.cell (p := ⟨b, off + y * 8 + 1, none⟩) hb).trans h1
            have c2 := (hbel3.cell (p := ⟨b, off + y * 8 + 2, none⟩) hb).trans h2
            have c3 := (hbel3.cell (p := ⟨b, off + y * 8 + 3, none⟩) hb).trans h3
            have c4 := (hbel3.cell (p := ⟨b, off + y * 8 + 4, none⟩) hb).trans h4
            have c5 := (hbel3.cell (p := ⟨b, off + y * 8 + 5, none⟩) hb).trans h5
            have c6 := (hbel3.cell (p := ⟨b, off + y * 8 + 6, none⟩) hb).trans h6
            have c7 := (hbel3.cell (p := ⟨b, off + y * 8 + 7, none⟩) hb).trans h7
            have hbx := push hbel3 (.cells #[.int .i64 (S y).id, .string (S y).fr, .string (S y).dst, .int .i64 (S y).dep, .int .i64 (S y).arr, .slice la (S y).la.n lc, .slice ca (S y).ca.n cc, .int .i64 (S y).most] 37)
            have q1 := (hbx.cell (p := ⟨b, off + x * 8 + 1, none⟩) hb).trans g1
            have q3 := (hbx.cell (p := ⟨b, off + x * 8 + 3, none⟩) hb).trans g3
            clear h0 h1 h2 h3 h4 h5 h6 h7 g0 g1 g2 g3
            have HOK : Hid (((S y).dst = (S x).fr ∧ (S y).arr ≤ (S x).dep) ↔ LegOk N S G k) := by
              unfold LegOk
              rw [← HX.out, ← HY.out]
              exact ⟨fun h => ⟨hf, fun _ => h⟩, fun h => h.2 (by omega)⟩
            by_cases m1 : (S y).dst = (S x).fr
            · have e1 : ((S y).dst.toList == (S x).fr.toList) = true := bytes_eq.2 m1
              have M1 : Hid ((S y).dst = (S x).fr) := m1
              clear m1
              by_cases m2 : (S y).arr ≤ (S x).dep
              · have e2 : decide ((S x).dep < (S y).arr) = false := by simpa using m2
                go_wp2
                go_quiet (fail)
                go_wp2
                go_roundw
                case rel => exact ⟨k + 1, by omega, by go_num, fun j hj => by
                  by_cases e : j = k
                  · subst e; exact HOK.out.1 ⟨M1.out, m2⟩
                  · exact HA.out j (by omega), below_drewN hbx _⟩
                case measure => simp [intOf]; omega
              · have e2 : decide ((S x).dep < (S y).arr) = true := by simpa using m2
                go_wp2
                go_quiet (fail)
                go_wp2
                go_ret
                exact ⟨says_no (fun h => by have := (HOK.out.2 (h.2.2 k hlt)).2; omega), below_drewN hbx _⟩
            · have e1 : ((S y).dst.toList == (S x).fr.toList) = false := bytes_ne.2 m1
              have M1 : Hid (¬ (S y).dst = (S x).fr) := m1
              clear m1
              go_wp2
              go_quiet (fail)
              go_wp2
              go_ret
              exact ⟨says_no (fun h => M1.out (HOK.out.2 (h.2.2 k hlt)).1), below_drewN hbx _⟩
          · exfalso
            have := HP.out
            omega
      · have dn : decide ((-1 : Int) < 0) = true := rfl
        have HF : Hid (findIx S (G k) N = N) := hf
        clear hf
        go_wp2
        go_ret
        exact ⟨says_no (fun h => by have := (h.2.2 k hlt).1; have := HF.out; omega), hbel2⟩
    · obtain rfl : k = n := by omega
      go_wp2
      go_ret
      exact ⟨says_yes ⟨H3.out.1, H3.out.2, HA.out⟩, hbel⟩

end Go.Proofs.YtfallpinmhbemaaGreatDoor

namespace Go.Proofs.YtfallpinmhbemaaGreatDoor
open Go.RowKit

section
variable {P : Program} {ops : Array Oper} {Q : Exit → Act → World → Prop} {md : Region.Mode} {S : World → Prop} {z : Nat}

/-- Whatever order is picked, and S holds behind every operation but z. -/
def wpAnyZ (P : Program) (md : Region.Mode) (ops : Array Oper) (Q : Exit → Act → World → Prop) (S : World → Prop) (z : Nat) : Nat → Array Bool → Act → World → Prop
  | 0, listed, a, w => Region.ready md ops listed = [] ∧ Q .normal a w
  | fuel + 1, listed, a, w =>
    (Region.ready md ops listed = [] → Q .normal a w) ∧
    ∀ i ∈ Region.ready md ops listed, wpOp P ops Q i (fun a' w' => (i ≠ z → S w') ∧ wpAnyZ P md ops Q S z fuel (listed.setIfInBounds i true) a' w') a w
theorem wpAny_of_z : ∀ (fuel : Nat) (listed : Array Bool) (a : Act) (w : World), wpAnyZ P md ops Q S z fuel listed a w → wpAny P md ops Q fuel listed a w
  | 0, _, _, _, h => h
  | fuel + 1, _, _, _, h => ⟨h.1, fun i hi => wpOp_mono (fun a' w' h' => wpAny_of_z fuel _ a' w' h'.2) (h.2 i hi)⟩
/-- Some later operation waits for each but z. -/
def waited (md : Region.Mode) (ops : Array Oper) (z : Nat) : Bool :=
  (List.range ops.size).all fun j => j == z || (List.range ops.size).any fun s => decide (j < s) && ((ops[s]?).map fun o => o.after.any fun e => Region.binds md e && e.on == j).getD false
/-- What has come up has come up behind what it waits for. -/
def shutB (md : Region.Mode) (ops : Array Oper) (listed : Array Bool) : Bool :=
  (List.range ops.size).all fun s => !listed.getD s false || ((ops[s]?).map fun o => o.after.all fun e => !Region.binds md e || listed.getD e.on false).getD true
def ShutL (md : Region.Mode) (ops : Array Oper) (listed : Array Bool) : Prop :=
  ∀ s o, ops[s]? = some o → listed.getD s false = true → ∀ e ∈ o.after, Region.binds md e = true → listed.getD e.on false = true
theorem shut_of {listed : Array Bool} (h : shutB md ops listed = true) : ShutL md ops listed := fun s o ho hl e he hb => by
  unfold shutB at h
  rw [List.all_eq_true] at h
  have hlt : s < ops.size := (Array.getElem?_eq_some_iff.1 ho).1
  have h1 := h s (List.mem_range.2 hlt)
  rw [hl, ho] at h1
  simp only [Bool.not_true, Bool.false_or, Option.map_some, Option.getD_some, Array.all_eq_true_iff_forall_mem] at h1
  have h2 := h1 e he
  rw [hb] at h2
  simpa using h2
theorem shut_set {listed : Array Bool} {i : Nat} (h : ShutL md ops listed) (hi : i ∈ Region.ready md ops listed) : ShutL md ops (listed.setIfInBounds i true) := fun s o ho hl e he hb => by
  by_cases c : i = s
  · subst c
    obtain ⟨_, o', ho', hall⟩ := mem_ready.1 hi
    rw [ho] at ho'
    cases ho'
    exact getD_set_true (hall e he hb)
  · rw [getD_set_ne false c] at hl
    exact getD_set_true (h s o ho hl e he hb)
/-- Where z may come up all others have. -/
theorem all_listed {listed : Array Bool} (hw : waited md ops z = true) (hz : z + 1 = ops.size) (hs : ShutL md ops listed) (hr : z ∈ Region.ready md ops listed) : ∀ m j, j + m = z → j ≠ z → listed.getD j false = true := by
  intro m
  induction m using Nat.strongRecOn with
  | ind m ih =>
    intro j hjm hj
    unfold waited at hw
    rw [List.all_eq_true] at hw
    have h1 := hw j (List.mem_range.2 (by omega))
    rw [Bool.or_eq_true] at h1
    rcases h1 with h1 | h1
    · exact absurd (by simpa using h1) hj
    · rw [List.any_eq_true] at h1
      obtain ⟨s, hsr, h2⟩ := h1
      rw [Bool.and_eq_true] at h2
      have hjs : j < s := by simpa using h2.1
      have hsl : s < ops.size := List.mem_range.1 hsr
      cases ho : ops[s]? with
      | none => rw [ho] at h2; simp at h2
      | some o =>
        rw [ho] at h2
        simp only [Option.map_some, Option.getD_some, Array.any_eq_true', Bool.and_eq_true] at h2
        obtain ⟨_, e, he, hb, hon⟩ := h2
        have hon : e.on = j := by simpa using hon
        by_cases c : s = z
        · subst c
          obtain ⟨_, o', ho', hall⟩ := mem_ready.1 hr
          rw [ho] at ho'
          cases ho'
          rw [← hon]
          exact hall e he hb
        · have := ih (z - s) (by omega) s (by omega) c
          rw [← hon]
          exact hs s o ho this e he hb
theorem wpAnyZ_first {i : Nat} {oi : Oper} {v : Value} (hi : ops[i]? = some oi) (hiz : i ≠ z) (hw : waited md ops z = true) (hz : z + 1 = ops.size) (hsel : ∀ (j : Nat) (o : Oper) cs b, ops[j]? = some o → o.op ≠ .select cs b)
    (hQ : ∀ c a w, Q (.panic c) (a.put oi.dst v) w → Q (.panic c) a w) :
    ∀ (fuel : Nat) (listed : Array Bool) (a : Act) (w : World), ShutL md ops listed →
      (∀ j oj, ops[j]? = some oj → j ≠ i → listed.getD j true = false → (∀ e ∈ oj.after, Region.binds md e = true → e.on ≠ i) → oi.apart ops oj = true) →
      i ∈ Region.ready md ops listed → YieldsIf P ops S oi v a → S w →
      wpAnyZ P md ops Q S z fuel (listed.setIfInBounds i true) (a.put oi.dst v) w → wpAnyZ P md ops Q S z (fuel + 1) listed a w := by
  intro fuel
  induction fuel with
  | zero =>
    intro listed a w _ _ hr hy hS H
    refine ⟨fun h => (by rw [h] at hr; cases hr), fun j hj => ?_⟩
    by_cases hji : j = i
    · subst hji; exact hy.wpOp hi hS ⟨fun _ => hS, H⟩
    · have := ready_mono hj hji
      rw [H.1] at this
      cases this
  | succ fuel ih =>
    intro listed a w hsh hfree hr hy hS H
    refine ⟨fun h => (by rw [h] at hr; cases hr), fun j hj => ?_⟩
    by_cases hji : j = i
    · subst hji; exact hy.wpOp hi hS ⟨fun _ => hS, H⟩
    · have hjz : j ≠ z := fun e => by
        subst e
        have hlt : i < ops.size := (Array.getElem?_eq_some_iff.1 hi).1
        have h1 := all_listed hw hz hsh hj (j - i) i (by omega) hiz
        have h0 := (mem_ready.1 hr).1
        rcases Nat.lt_or_ge i listed.size with h' | h'
        · simp [h'] at h0 h1; rw [h0] at h1; cases h1
        · simp [Array.getElem?_eq_none h'] at h1
      have h1 := H.2 j (ready_mono hj hji)
      obtain ⟨hjun, oj, hoj, hall⟩ := mem_ready.1 hj
      have hnot : ∀ e ∈ oj.after, Region.binds md e = true → e.on ≠ i := fun e he hb heq => by
        have h1 := hall e he hb
        have h0 := (mem_ready.1 hr).1
        rw [heq] at h1
        rcases Nat.lt_or_ge i listed.size with h' | h'
        · simp [h'] at h0 h1; rw [h0] at h1; cases h1
        · simp [Array.getElem?_eq_none h'] at h1
      have h2 := wpOp_putIf hoj (hfree j oj hoj hji hjun hnot) (fun cs b => hsel i oi cs b hi) (fun cs b => hsel j oj cs b hoj) hQ hy h1
      have hfree' : ∀ k ok, ops[k]? = some ok → k ≠ i → (listed.setIfInBounds j true).getD k true = false →
          (∀ e ∈ ok.after, Region.binds md e = true → e.on ≠ i) → oi.apart ops ok = true := fun k ok hk hki hun hno => by
        refine hfree k ok hk hki ?_ hno
        by_cases hjk : j = k
        · subst hjk; exact hjun
        · rw [getD_set_ne true hjk] at hun; exact hun
      refine wpOp_mono (fun a' w' h3 => ⟨h3.2.1, ih (listed.setIfInBounds j true) a' w' (shut_set hsh hj) hfree' (ready_mono hr (Ne.symm hji)) h3.1 (h3.2.1 hjz) ?_⟩) h2
      rw [Array.setIfInBounds_comm _ _ hji]
      exact h3.2.2
theorem wpAnyZ_take {i : Nat} {oi : Oper} {v : Value} {fuel : Nat} {listed : Array Bool} {a : Act} {w : World} (hi : ops[i]? = some oi)
    (hs : Region.noSelect ops = true) (hf : Region.free md ops listed i = true) (hr : (Region.ready md ops listed).contains i = true) (hk : (!(i == z) && waited md ops z && shutB md ops listed && (z + 1 == ops.size)) = true)
    (hQ : ∀ c a w, Q (.panic c) (a.put oi.dst v) w → Q (.panic c) a w) (hy : YieldsIf P ops S oi v a) (hS : S w)
    (h : wpAnyZ P md ops Q S z fuel (listed.setIfInBounds i true) (a.put oi.dst v) w) : wpAnyZ P md ops Q S z (fuel + 1) listed a w := by
  simp only [Bool.and_eq_true, Bool.not_eq_true', beq_eq_false_iff_ne, ne_eq, beq_iff_eq] at hk
  exact wpAnyZ_first hi hk.1.1.1 hk.1.1.2 hk.2 (Region.noSelect_spec hs) hQ fuel listed a w (shut_of hk.1.2) (Region.free_spec hi hf) (by simpa using hr) hy hS h
/-- Each of the operations rs comes up next. -/
def AllReadyZ (P : Program) (md : Region.Mode) (ops : Array Oper) (Q : Exit → Act → World → Prop) (S : World → Prop) (z fuel : Nat) (listed : Array Bool) (a : Act) (w : World) (rs : List Nat) : Prop :=
  ∀ i ∈ rs, wpOp P ops Q i (fun a' w' => (i ≠ z → S w') ∧ wpAnyZ P md ops Q S z fuel (listed.setIfInBounds i true) a' w') a w
theorem AllReadyZ.nil {fuel : Nat} {listed : Array Bool} {a : Act} {w : World} : AllReadyZ P md ops Q S z fuel listed a w [] := fun _ h => by cases h
theorem AllReadyZ.cons {fuel : Nat} {listed : Array Bool} {a : Act} {w : World} {i : Nat} {o : Oper} {rs : List Nat} (ho : ops[i]? = some o)
    (h : ∀ K' : Act → World → Prop, Shut (∀ a w, S w → (S w → wpAnyZ P md ops Q S z fuel (listed.setIfInBounds i true) a w) → K' a w) → if Region.wanted o (yielded ops a.tmps) = true then Oper.wp P o a w K' Q else K' (a.put o.dst undef) w)
    (hs : AllReadyZ P md ops Q S z fuel listed a w rs) : AllReadyZ P md ops Q S z fuel listed a w (i :: rs) := fun j hj => by
  rcases List.mem_cons.1 hj with rfl | hj
  · exact wpOp_step ho (fun K' hK => h K' (fun a w hS hW => hK a w ⟨fun _ => hS, hW hS⟩))
  · exact hs j hj
/-- The last operation. -/
theorem AllReadyZ.last {fuel : Nat} {listed : Array Bool} {a : Act} {w : World} {o : Oper} (ho : ops[z]? = some o)
    (h : ∀ K' : Act → World → Prop, Shut (∀ a w, wpAnyZ P md ops Q S z fuel (listed.setIfInBounds z true) a w → K' a w) → if Region.wanted o (yielded ops a.tmps) = true then Oper.wp P o a w K' Q else K' (a.put o.dst undef) w) : AllReadyZ P md ops Q S z fuel listed a w [z] := fun j hj => by
  rcases List.mem_cons.1 hj with rfl | hj
  · exact wpOp_step ho (fun K' hK => h K' (fun a w hW => hK a w ⟨fun e => absurd rfl e, hW⟩))
  · cases hj
theorem wpAnyZ_ready {rs : List Nat} {fuel : Nat} {listed : Array Bool} {a : Act} {w : World} (hr : Region.ready md ops listed = rs) (hne : rs ≠ [])
    (h : AllReadyZ P md ops Q S z fuel listed a w rs) : wpAnyZ P md ops Q S z (fuel + 1) listed a w :=
  ⟨fun h0 => absurd (hr ▸ h0) hne, hr ▸ h⟩
theorem wpAnyZ_done {listed : Array Bool} {a : Act} {w : World} (hr : Region.ready md ops listed = []) (h : Q .normal a w) : ∀ fuel, wpAnyZ P md ops Q S z fuel listed a w
  | 0 => ⟨hr, h⟩
  | _ + 1 => ⟨fun _ => h, fun i hi => by rw [hr] at hi; cases hi⟩
theorem wp_region_z {id : Nat} {a : Act} {w : World} (z n : Nat) (S : World → Prop) (hn : ops.size = n) (hm : P.follows .mixedOrders = true) (hS : S w.drew)
    (h : S w.drew → wpAnyZ P .any ops Q S z n (List.replicate n false).toArray a w.drew) : (Code.region id ops true).wp P Q a w := by
  subst hn
  exact wp_region_any hm (wpAny_of_z _ _ _ _ (by simpa using h hS))
end
section
variable {P : Program} {l : List Oper} {Q : Exit → Act → World → Prop} {md : Region.Mode} {S : World → Prop} {z : Nat}
theorem wpAnyZ_takeL {i : Nat} {oi : Oper} {v : Value} {fuel : Nat} {listed : List Bool} {a : Act} {w : World} (hi : l[i]? = some oi)
    (hk : (Region.noSelect l.toArray && Region.free md l.toArray listed.toArray i && (Region.ready md l.toArray listed.toArray).contains i && (!(i == z) && waited md l.toArray z && shutB md l.toArray listed.toArray && (z + 1 == l.toArray.size))) = true)
    (hQ : ∀ c a w, Q (.panic c) (a.put oi.dst v) w → Q (.panic c) a w) (hy : YieldsIf P l.toArray S oi v a) (hS : S w)
    (h : wpAnyZ P md l.toArray Q S z fuel (listed.set i true).toArray (a.put oi.dst v) w) : wpAnyZ P md l.toArray Q S z (fuel + 1) listed.toArray a w := by
  rw [Bool.and_eq_true, Bool.and_eq_true, Bool.and_eq_true] at hk
  exact wpAnyZ_take (i := i) (by simpa using hi) hk.1.1.1 hk.1.1.2 hk.1.2 hk.2 hQ hy hS (by simpa using h)
theorem AllReadyZ.consL {fuel : Nat} {listed : List Bool} {a : Act} {w : World} {i : Nat} {o : Oper} {rs : List Nat} (ho : l[i]? = some o)
    (h : ∀ K' : Act → World → Prop, Shut (∀ a w, S w → (S w → wpAnyZ P md l.toArray Q S z fuel (listed.set i true).toArray a w) → K' a w) → if Region.wanted o (yielded l.toArray a.tmps) = true then Oper.wp P o a w K' Q else K' (a.put o.dst undef) w)
    (hs : AllReadyZ P md l.toArray Q S z fuel listed.toArray a w rs) : AllReadyZ P md l.toArray Q S z fuel listed.toArray a w (i :: rs) :=
  AllReadyZ.cons (by simpa using ho) (fun K' hK => h K' (fun a w hS hW => hK a w hS (fun hS => by simpa using hW hS))) hs
theorem AllReadyZ.lastL {fuel : Nat} {listed : List Bool} {a : Act} {w : World} {o : Oper} (ho : l[z]? = some o)
    (h : ∀ K' : Act → World → Prop, Shut (∀ a w, wpAnyZ P md l.toArray Q S z fuel (listed.set z true).toArray a w → K' a w) → if Region.wanted o (yielded l.toArray a.tmps) = true then Oper.wp P o a w K' Q else K' (a.put o.dst undef) w) : AllReadyZ P md l.toArray Q S z fuel listed.toArray a w [z] :=
  AllReadyZ.last (by simpa using ho) (fun K' hK => h K' (fun a w hW => hK a w (by simpa using hW)))
end

end Go.Proofs.YtfallpinmhbemaaGreatDoor

namespace Go.Proofs.YtfallpinmhbemaaGreatDoor
open Go.RowKit

def putI (F : Nat → Int) (m : Nat) (x : Int) (i : Nat) : Int := if i = m then x else F i
theorem intList_putI (F : Nat → Int) (m : Nat) (x : Int) : intList (putI F m x) (m + 1) = intList F m ++ [.int .i64 x] := by
  unfold intList
  rw [List.range_succ, List.map_append]
  congr 1
  · refine List.map_congr_left fun j hj => ?_
    have hj' : j < m := by simpa using hj
    unfold putI
    rw [if_neg (by omega)]
  · unfold putI
    simp

/-- A cursor behind writes elsewhere. -/
theorem CurIs.far {w w' : World} {cb n c a : Nat} {ao : Option Addr} {T : Nat → Prop} (h : CurIs w cb ao n c a) (hk : Kept w w' T) (h1 : ¬ T cb) (h2 : ∀ k, k < n → ∀ b off, ao = some ⟨b, off, none⟩ → ¬ T b) : CurIs w' cb ao n c a := by
  obtain ⟨⟨p, s, hp, hb⟩, hc⟩ := h
  refine ⟨⟨p, s, hp, hk.blk hb h1⟩, fun k hk' => ?_⟩
  obtain ⟨b, off, x, e, hne, hcell, g1, g2⟩ := hc k hk'
  exact ⟨b, off, x, e, hne, hk.cellAt hcell (h2 k hk' b off e), g1, g2⟩
theorem Kept.over {w u u' : World} {S T : Nat → Prop} (h : Kept w u S) (k : Kept u u' T) (hT : ∀ b, T b → w.heap.size ≤ b) : Kept w u' S :=
  ⟨k.os.trans h.os, k.tape.trans h.tape, k.output.trans h.output, Nat.le_trans h.size k.size, fun i hi hs => (k.block i (Nat.lt_of_lt_of_le hi h.size) (fun t => by have := hT i t; omega)).trans (h.block i hi hs)⟩

set_option maxHeartbeats 25600000 in
set_option maxRecDepth 100000 in
theorem legsIn_any (cb : Nat) (ao : Option Addr) (n c a : Nat) (asl : Option Addr) (N cs : Nat) (S : Nat → Sail) (w : World) (ha : a ≤ 700000000000000000) (hN : N ≤ 1000) (h : CurIs w cb ao n c a) (hz : ∀ u, Kept w u (fun b => b = cb) → SailsAt u asl N S) :
    Calls Tryz.prog 74 #[.pointer (some ⟨cb, 0, none⟩), .slice asl N cs] w fun e w' => (∃ v k F, k ≤ 4 ∧ e = .returned v ∧ w'.ownsRow w.heap.size 3 1 v k (intList F k)) ∧ CurIs w' cb ao n c (a + 60) ∧ Kept w w' (fun b => b = cb) := by
  obtain ⟨n0, ni, nz0, nz1, nz2⟩ := info_parts Tryz.infoInt
  have HZ : Hid (∀ u, Kept w u (fun b => b = cb) → SailsAt u asl N S) := hz
  have hcb := h.lt
  have HL : Hid (∀ k, k < n → ∀ b off, ao = some ⟨b, off, none⟩ → b < w.heap.size) := h.code_lt
  clear hz
  go_enter Tryz.func74, Tryz.ntmps74
  go_wp2_with fail
  refine (pick_any cb ao n c a 3 w (by omega) (by decide) (by decide) h).mono ?_
  rintro e w1 ⟨⟨r0, rfl, hr0⟩, hc1, hk1⟩
  have HC1 : Hid (CurIs w1 cb ao n c (a + 2)) := hc1
  have HK1 : Hid (Kept w w1 (fun b => b = cb)) := hk1
  have hw0 : IntKind.i64.wrap (1 + (r0 : Int)) = ((r0 + 1 : Nat) : Int) := by rw [IntKind.wrap_i64]; omega
  clear hc1 hk1 h
  go_wp2
  go_loopw [5, 6, 7, 8] (fun v nn _ _ wr => ∃ (k q a' : Nat) (F : Nat → Int), k + q ≤ 3 ∧ nn = .int .i64 q ∧ a' + 10 * q ≤ a + 40 ∧ Hid (wr.ownsRow w.heap.size 3 1 v k (intList F k)) ∧ Hid (CurIs wr cb ao n c a') ∧ Hid (Kept w wr (fun b => b = cb))) (fun _ nn _ _ _ => (intOf nn).toNat)
  case atStart => exact ⟨0, r0 + 1, a + 2, fun _ => 0, by omega, rfl, by omega, ⟨rfl, .inl ⟨rfl, rfl⟩⟩, HC1.out, HK1.out⟩
  case round =>
    clear HC1 HK1
    obtain ⟨k, q, a', F, hkq, rfl, haq, HOW, HC, HK⟩ := hrel
    obtain ⟨av, cv, rfl, av1, av2, av3⟩ := own_form HOW.out
    have HAV : Hid (av = none → k = 0 ∧ cv = 0) := av3
    clear av1 av2 av3
    by_cases hq : 0 < q ∧ 0 < N
    · obtain ⟨hq0, hN0⟩ := hq
      have d1 : decide (0 < (q : Int)) = true := decide_eq_true (by omega)
      have d2 : decide (0 < (N : Int)) = true := decide_eq_true (by omega)
      have i0 : (0 : Int) < (q : Int) := by omega
      have i1 : (0 : Int) < (N : Int) := by omega
      go_wp2_with fail
      refine (pick_any cb ao n c a' N wr (by omega) (by omega) (by omega) HC.out).mono ?_
      rintro e w2 ⟨⟨r, rfl, hr⟩, hc2, hk2⟩
      have HC2 : Hid (CurIs w2 cb ao n c (a' + 2)) := hc2
      have HK2 : Hid (Kept w w2 (fun b => b = cb)) := HK.out.trans hk2
      have HO2 : Hid (w2.ownsRow w.heap.size 3 1 (.slice av k cv) k (intList F k)) := hk2.own HOW.out (fun g hg e => by have e : g = cb := e; have := (HOW.out.lt g hg).1; omega)
      clear hc2 hk2 HC HK HOW
      obtain ⟨sb0, so, la, lc, ca, cc, rfl, s0, s1, s2, s3, s4, s5, s6, s7, _⟩ := HZ.out w2 HK2.out r hr
      obtain ⟨s, hsd⟩ : ∃ s, s = S r := ⟨_, rfl⟩
      rw [← hsd] at s0 s1 s2 s3 s4 s5 s6 s7
      clear hsd
      have j1 : (0 : Int) ≤ (r : Int) := by omega
      have j2 : (r : Int) < (N : Int) := by omega
      go_upto_region 6 with fail
      have hpX : Below w2.heap.size w2 (w2.alloc (.cells #[.int .i64 s.id, .string s.fr, .string s.dst, .int .i64 s.dep, .int .i64 s.arr, .slice la s.la.n lc, .slice ca s.ca.n cc, .int .i64 s.most] 37)) := push (Below.refl _ _) _
      have bX := heap_alloc_new w2 (.cells #[.int .i64 s.id, .string s.fr, .string s.dst, .int .i64 s.dep, .int .i64 s.arr, .slice la s.la.n lc, .slice ca s.ca.n cc, .int .i64 s.most] 37)
      have HKw : Hid (Kept w (w2.alloc (.cells #[.int .i64 s.id, .string s.fr, .string s.dst, .int .i64 s.dep, .int .i64 s.arr, .slice la s.la.n lc, .slice ca s.ca.n cc, .int .i64 s.most] 37)) (fun b => b = cb)) := HK2.out.trans (Kept.of_below hpX)
      have HCx : Hid (CurIs (w2.alloc (.cells #[.int .i64 s.id, .string s.fr, .string s.dst, .int .i64 s.dep, .int .i64 s.arr, .slice la s.la.n lc, .slice ca s.ca.n cc, .int .i64 s.most] 37)) cb ao n c (a' + 2)) := HC2.out.below hpX
      have HOX : Hid ((w2.alloc (.cells #[.int .i64 s.id, .string s.fr, .string s.dst, .int .i64 s.dep, .int .i64 s.arr, .slice la s.la.n lc, .slice ca s.ca.n cc, .int .i64 s.most] 37)).ownsRow w.heap.size 3 1 (.slice av k cv) k (intList F k)) := own_below hpX HO2.out
      generalize (w2.alloc (.cells #[.int .i64 s.id, .string s.fr, .string s.dst, .int .i64 s.dep, .int .i64 s.arr, .slice la s.la.n lc, .slice ca s.ca.n cc, .int .i64 s.most] 37)) = X at hpX bX HKw HCx HOX ⊢
      generalize w2.heap.size = sb at bX ⊢
      clear s0 s1 s2 s3 s4 s5 s6 s7 hpX HC2 HK2 HO2
      have HLX : Hid (∀ z, Below X.heap.size X z → IntsAt z av k F) := fun z hb => own_ints (own_below hb HOX.out)
      have KS : Hid (∀ z, Below X.heap.size X z → z.cell? ⟨sb, 0, none⟩ = some (.int .i64 s.id) ∧ True) := fun z hb => ⟨blk_cell (blk_below bX hb) 0 _ rfl, trivial⟩
      refine wp_region_z 7 8 (fun w' => w'.cell? ⟨sb, 0, none⟩ = some (.int .i64 s.id) ∧ True) rfl (by kernel_rfl) (KS.out X.drew (Below.drew (Below.refl _ _))) (fun hS => ?_)
      simp only [List.replicate_succ, List.replicate_zero]
      (refine wpAnyZ_takeL (i := 1) (v := ?_) rfl (by kernel_rfl) (fun _ _ _ h => h) (Or.inl ⟨by rfl, ?_⟩) (by assumption) ?_; rotate_left; (focus (intro w' hSw; (try dsimp only at hSw); go_simp; try with_reducible rfl)); simp only [Act.put, List.setIfInBounds_toArray, List.set_cons_zero, List.set_cons_succ])
      (refine wpAnyZ_takeL (i := 3) (v := ?_) rfl (by kernel_rfl) (fun _ _ _ h => h) (Or.inl ⟨by rfl, ?_⟩) (by assumption) ?_; rotate_left; (focus (intro w' hSw; (try dsimp only at hSw); go_simp; try with_reducible rfl)); simp only [Act.put, List.setIfInBounds_toArray, List.set_cons_zero, List.set_cons_succ])
      (refine wpAnyZ_takeL (i := 4) (v := ?_) rfl (by kernel_rfl) (fun _ _ _ h => h) (Or.inl ⟨by rfl, ?_⟩) (by assumption) ?_; rotate_left; (focus (intro w' hSw; (try dsimp only at hSw); go_simp; try with_reducible rfl)); simp only [Act.put, List.setIfInBounds_toArray, List.set_cons_zero, List.set_cons_succ])
      refine wpAnyZ_ready (rs := [0, 5]) (by kernel_rfl) (by simp) ?_
      refine AllReadyZ.consL rfl (fun K hK => ?_) ?_
      · go_simp; refine hK.out _ _ (KS.out _ (by repeat (first | with_reducible exact HB1.out | with_reducible exact Below.refl _ _ | with_reducible refine Below.drew ?_ | with_reducible refine push ?_ _))) (fun hS => ?_)
        clear hK K
        simp only [List.set_cons_zero]
        refine wpAnyZ_ready (rs := [2, 5]) (by kernel_rfl) (by simp) ?_
        refine AllReadyZ.consL rfl (fun K hK => ?_) ?_
        · refine step_append_own0 (by rfl) (.tmp 28) (.tmp 29) 23 (by rfl) 3 n0 (.int .i64 0) 1 8 Tryz.underlying23 ni nz0 nz1 nz2 rfl (by decide) X.heap.size _ (by rfl) (by first | exact Nat.le_refl _ | omega | (simp; done) | (simp; omega)) (by repeat (first | ((with_reducible refine new_at _ _ _ ?_); (first | with_reducible rfl | (simp; done))) | with_reducible refine blk_drew ?_ | with_reducible refine blk_alloc ?_ _)) av k cv (intList F k) (by rfl) HAV.out (by rw [intList_length, Nat.mul_one]) (ints_cellsO (HLX.out _ (by repeat (first | exact Below.refl _ _ | refine Below.drew ?_ | refine push ?_ _)))) (intList_one _ _) (by unfold maxLen; omega) (by omega) ?_; intro p1 q1 u1 hg1 hr1 hat1; clear hat1; have HB1 : Hid (Below X.heap.size X u1) := (by show Below _ _ _; refine after ?_ (grown_below hg1); exact (by repeat (first | exact Below.refl _ _ | refine Below.drew ?_ | refine push ?_ _))); refine hK.out _ _ (KS.out _ HB1.out) (fun hS => ?_)
          clear hK K
          simp only [Act.put, List.setIfInBounds_toArray, List.set_cons_zero, List.set_cons_succ]
          refine wpAnyZ_ready (rs := [5]) (by kernel_rfl) (by simp) ?_
          refine AllReadyZ.consL rfl (fun K hK => ?_) ?_
          · go_simp; refine hK.out _ _ (KS.out _ (by repeat (first | with_reducible exact HB1.out | with_reducible exact Below.refl _ _ | with_reducible refine Below.drew ?_ | with_reducible refine push ?_ _))) (fun hS => ?_)
            clear hK K
            simp only [List.set_cons_zero, List.set_cons_succ]
            refine wpAnyZ_ready (rs := [6]) (by kernel_rfl) (by simp) ?_
            refine AllReadyZ.consL rfl (fun K hK => ?_) ?_
            · refine step_append_lies _ (by rfl) (.tmp 30) (.tmp 33) 23 (by rfl) X.heap.size 3 n0 (.int .i64 0) 1 8 Tryz.underlying23 ni nz0 nz1 nz2 rfl (by decide) _ k (intList F k) (by rfl) (by first | exact hr1 | exact hr1.alloc _ | exact own_below (push (Below.refl _ _) _) hr1) _ 1 1 [.int .i64 s.id] (by rfl) (by rfl) (by refine World.news_of_block (cs := #[.int .i64 s.id]) (t := 3) (fr := (0, 0)) ?_; exact (by repeat (first | ((with_reducible refine new_at _ _ _ ?_); (first | with_reducible rfl | (simp; done))) | with_reducible refine blk_drew ?_ | with_reducible refine blk_alloc ?_ _ | with_reducible refine blk_below ?_ (grown_below hg1)))) (by intro u hu; simp at hu; subst hu; rfl) (by decide) (by unfold maxLen; omega) (by omega) (by first | exact HB1.out.size | (have := HB1.out.size; simp; omega)) _ rfl ?_; intro g2 cap2 u2 ho2 hg2 hat2 hlt2; refine (fun (HB2 : Hid (Below X.heap.size X u2)) => ?_) (Below.grown ?_ hg2 ?_ (fun j hj => (hr1.lt j hj).1)); rotate_left; (focus (repeat (first | with_reducible exact HB1.out | exact Below.refl _ _ | refine Below.drew ?_ | refine push ?_ _))); (focus (first | exact HB1.out.size | (have := HB1.out.size; simp; omega))); refine hK.out _ _ (KS.out _ HB2.out) (fun hS => ?_)
              clear hK K
              simp only [Act.put, List.setIfInBounds_toArray, List.set_cons_zero, List.set_cons_succ]
              refine wpAnyZ_ready (rs := [7]) (by kernel_rfl) (by simp) ?_
              refine AllReadyZ.lastL rfl (fun K hK => ?_)
              go_simp
              refine hK.out _ _ ?_
              clear hK K
              refine wpAnyZ_done (by kernel_rfl) ?_ _
              have HO2 : Hid (u2.ownsRow X.heap.size 3 1 (.slice (some ⟨g2, 0, none⟩) (k + 1) cap2) (k + 1) (intList (putI F k s.id) (k + 1))) := by
                show u2.ownsRow _ _ _ _ _ _
                rw [intList_putI]
                exact ho2
              clear hS hg1 hr1 hg2 hat2 hlt2 ho2 HB1
              have HKX : Hid (Kept w u2 (fun b => b = cb)) := HKw.out.trans (Kept.of_below HB2.out)
              have HCX : Hid (CurIs u2 cb ao n c (a' + 2)) := HCx.out.below HB2.out
              have HOo : Hid (u2.ownsRow w.heap.size 3 1 (.slice av k cv) k (intList F k)) := own_below HB2.out HOX.out
              have hszX : w.heap.size ≤ X.heap.size := HKw.out.size
              go_wp2_with fail
              refine (l3Fit_any (some ⟨sb0, so, none⟩) (some ⟨g2, 0, none⟩) N (k + 1) cs cap2 S (putI F k s.id) _ (by omega) (by omega) (HZ.out _ HKX.out) (own_ints HO2.out)).mono ?_
              rintro e u3 ⟨⟨tf, rfl, _⟩, hb3⟩
              have HO3 : Hid (u3.ownsRow w.heap.size 3 1 (.slice (some ⟨g2, 0, none⟩) (k + 1) cap2) (k + 1) (intList (putI F k s.id) (k + 1))) := own_below hb3 (own_base HO2.out hszX)
              have HOn : Hid (u3.ownsRow w.heap.size 3 1 (.slice av k cv) k (intList F k)) := own_below hb3 HOo.out
              have HK3 : Hid (Kept w u3 (fun b => b = cb)) := HKX.out.trans (Kept.of_below hb3)
              have HC3 : Hid (CurIs u3 cb ao n c (a' + 2)) := HCX.out.below hb3
              have hwq : IntKind.i64.wrap ((q : Int) - 1) = ((q - 1 : Nat) : Int) := by rw [IntKind.wrap_i64]; omega
              clear HO2 HOo HKX HCX hb3 HB2
              cases tf with
              | true =>
                go_wp2
                go_roundw
                case rel => exact ⟨k + 1, q - 1, a' + 2, putI F k s.id, by omega, rfl, by omega, HO3.out, HC3.out, HK3.out⟩
                case measure => simp [intOf]; omega
              | false =>
                go_wp2_with fail
                refine (one_any cb ao n c (a' + 2) 20 u3 (by omega) (by decide) (by decide) HC3.out).mono ?_
                rintro e u4 ⟨⟨tb, rfl⟩, hc4, hk4⟩
                have HC4 : Hid (CurIs u4 cb ao n c (a' + 2 + 2)) := hc4
                have HK4 : Hid (Kept w u4 (fun b => b = cb)) := HK3.out.trans hk4
                have hcw : ∀ g, w.heap.size ≤ g → ¬ g = cb := fun g h1 h2 => by omega
                have HO4 : Hid (u4.ownsRow w.heap.size 3 1 (.slice (some ⟨g2, 0, none⟩) (k + 1) cap2) (k + 1) (intList (putI F k s.id) (k + 1))) := hk4.own HO3.out (fun g hg => hcw g (HO3.out.lt g hg).1)
                have HOm : Hid (u4.ownsRow w.heap.size 3 1 (.slice av k cv) k (intList F k)) := hk4.own HOn.out (fun g hg => hcw g (HOn.out.lt g hg).1)
                clear hc4 hk4 HO3 HOn HC3 HK3 hcw
                cases tb with
                | true =>
                  go_wp2
                  go_roundw
                  case rel => exact ⟨k + 1, q - 1, a' + 2 + 2, putI F k s.id, by omega, rfl, by omega, HO4.out, HC4.out, HK4.out⟩
                  case measure => simp [intOf]; omega
                | false =>
                  go_wp2
                  go_roundw
                  case rel => exact ⟨k, q - 1, a' + 2 + 2, F, by omega, rfl, by omega, HOm.out, HC4.out, HK4.out⟩
                  case measure => simp [intOf]; omega
            exact AllReadyZ.nil
          exact AllReadyZ.nil
        refine AllReadyZ.consL rfl (fun K hK => ?_) ?_
        · go_simp; refine hK.out _ _ (KS.out _ (by repeat (first | with_reducible exact HB1.out | with_reducible exact Below.refl _ _ | with_reducible refine Below.drew ?_ | with_reducible refine push ?_ _))) (fun hS => ?_)
          clear hK K
          simp only [List.set_cons_zero, List.set_cons_succ]
          refine wpAnyZ_ready (rs := [2]) (by kernel_rfl) (by simp) ?_
          refine AllReadyZ.consL rfl (fun K hK => ?_) ?_
          · refine step_append_own0 (by rfl) (.tmp 28) (.tmp 29) 23 (by rfl) 3 n0 (.int .i64 0) 1 8 Tryz.underlying23 ni nz0 nz1 nz2 rfl (by decide) X.heap.size _ (by rfl) (by first | exact Nat.le_refl _ | omega | (simp; done) | (simp; omega)) (by repeat (first | ((with_reducible refine new_at _ _ _ ?_); (first | with_reducible rfl | (simp; done))) | with_reducible refine blk_drew ?_ | with_reducible refine blk_alloc ?_ _)) av k cv (intList F k) (by rfl) HAV.out (by rw [intList_length, Nat.mul_one]) (ints_cellsO (HLX.out _ (by repeat (first | exact Below.refl _ _ | refine Below.drew ?_ | refine push ?_ _)))) (intList_one _ _) (by unfold maxLen; omega) (by omega) ?_; intro p1 q1 u1 hg1 hr1 hat1; clear hat1; have HB1 : Hid (Below X.heap.size X u1) := (by show Below _ _ _; refine after ?_ (grown_below hg1); exact (by repeat (first | exact Below.refl _ _ | refine Below.drew ?_ | refine push ?_ _))); refine hK.out _ _ (KS.out _ HB1.out) (fun hS => ?_)
            clear hK K
            simp only [Act.put, List.setIfInBounds_toArray, List.set_cons_zero, List.set_cons_succ]
            refine wpAnyZ_ready (rs := [6]) (by kernel_rfl) (by simp) ?_
            refine AllReadyZ.consL rfl (fun K hK => ?_) ?_
            · refine step_append_lies _ (by rfl) (.tmp 30) (.tmp 33) 23 (by rfl) X.heap.size 3 n0 (.int .i64 0) 1 8 Tryz.underlying23 ni nz0 nz1 nz2 rfl (by decide) _ k (intList F k) (by rfl) (by first | exact hr1 | exact hr1.alloc _ | exact own_below (push (Below.refl _ _) _) hr1) _ 1 1 [.int .i64 s.id] (by rfl) (by rfl) (by refine World.news_of_block (cs := #[.int .i64 s.id]) (t := 3) (fr := (0, 0)) ?_; exact (by repeat (first | ((with_reducible refine new_at _ _ _ ?_); (first | with_reducible rfl | (simp; done))) | with_reducible refine blk_drew ?_ | with_reducible refine blk_alloc ?_ _ | with_reducible refine blk_below ?_ (grown_below hg1)))) (by intro u hu; simp at hu; subst hu; rfl) (by decide) (by unfold maxLen; omega) (by omega) (by first | exact HB1.out.size | (have := HB1.out.size; simp; omega)) _ rfl ?_; intro g2 cap2 u2 ho2 hg2 hat2 hlt2; refine (fun (HB2 : Hid (Below X.heap.size X u2)) => ?_) (Below.grown ?_ hg2 ?_ (fun j hj => (hr1.lt j hj).1)); rotate_left; (focus (repeat (first | with_reducible exact HB1.out | exact Below.refl _ _ | refine Below.drew ?_ | refine push ?_ _))); (focus (first | exact HB1.out.size | (have := HB1.out.size; simp; omega))); refine hK.out _ _ (KS.out _ HB2.out) (fun hS => ?_)
              clear hK K
              simp only [Act.put, List.setIfInBounds_toArray, List.set_cons_zero, List.set_cons_succ]
              refine wpAnyZ_ready (rs := [7]) (by kernel_rfl) (by simp) ?_
              refine AllReadyZ.lastL rfl (fun K hK => ?_)
              go_simp
              refine hK.out _ _ ?_
              clear hK K
              refine wpAnyZ_done (by kernel_rfl) ?_ _
              have HO2 : Hid (u2.ownsRow X.heap.size 3 1 (.slice (some ⟨g2, 0, none⟩) (k + 1) cap2) (k + 1) (intList (putI F k s.id) (k + 1))) := by
                show u2.ownsRow _ _ _ _ _ _
                rw [intList_putI]
                exact ho2
              clear hS hg1 hr1 hg2 hat2 hlt2 ho2 HB1
              have HKX : Hid (Kept w u2 (fun b => b = cb)) := HKw.out.trans (Kept.of_below HB2.out)
              have HCX : Hid (CurIs u2 cb ao n c (a' + 2)) := HCx.out.below HB2.out
              have HOo : Hid (u2.ownsRow w.heap.size 3 1 (.slice av k cv) k (intList F k)) := own_below HB2.out HOX.out
              have hszX : w.heap.size ≤ X.heap.size := HKw.out.size
              go_wp2_with fail
              refine (l3Fit_any (some ⟨sb0, so, none⟩) (some ⟨g2, 0, none⟩) N (k + 1) cs cap2 S (putI F k s.id) _ (by omega) (by omega) (HZ.out _ HKX.out) (own_ints HO2.out)).mono ?_
              rintro e u3 ⟨⟨tf, rfl, _⟩, hb3⟩
              have HO3 : Hid (u3.ownsRow w.heap.size 3 1 (.slice (some ⟨g2, 0, none⟩) (k + 1) cap2) (k + 1) (intList (putI F k s.id) (k + 1))) := own_below hb3 (own_base HO2.out hszX)
              have HOn : Hid (u3.ownsRow w.heap.size 3 1 (.slice av k cv) k (intList F k)) := own_below hb3 HOo.out
              have HK3 : Hid (Kept w u3 (fun b => b = cb)) := HKX.out.trans (Kept.of_below hb3)
              have HC3 : Hid (CurIs u3 cb ao n c (a' + 2)) := HCX.out.below hb3
              have hwq : IntKind.i64.wrap ((q : Int) - 1) = ((q - 1 : Nat) : Int) := by rw [IntKind.wrap_i64]; omega
              clear HO2 HOo HKX HCX hb3 HB2
              cases tf with
              | true =>
                go_wp2
                go_roundw
                case rel => exact ⟨k + 1, q - 1, a' + 2, putI F k s.id, by omega, rfl, by omega, HO3.out, HC3.out, HK3.out⟩
                case measure => simp [intOf]; omega
              | false =>
                go_wp2_with fail
                refine (one_any cb ao n c (a' + 2) 20 u3 (by omega) (by decide) (by decide) HC3.out).mono ?_
                rintro e u4 ⟨⟨tb, rfl⟩, hc4, hk4⟩
                have HC4 : Hid (CurIs u4 cb ao n c (a' + 2 + 2)) := hc4
                have HK4 : Hid (Kept w u4 (fun b => b = cb)) := HK3.out.trans hk4
                have hcw : ∀ g, w.heap.size ≤ g → ¬ g = cb := fun g h1 h2 => by omega
                have HO4 : Hid (u4.ownsRow w.heap.size 3 1 (.slice (some ⟨g2, 0, none⟩) (k + 1) cap2) (k + 1) (intList (putI F k s.id) (k + 1))) := hk4.own HO3.out (fun g hg => hcw g (HO3.out.lt g hg).1)
                have HOm : Hid (u4.ownsRow w.heap.size 3 1 (.slice av k cv) k (intList F k)) := hk4.own HOn.out (fun g hg => hcw g (HOn.out.lt g hg).1)
                clear hc4 hk4 HO3 HOn HC3 HK3 hcw
                cases tb with
                | true =>
                  go_wp2
                  go_roundw
                  case rel => exact ⟨k + 1, q - 1, a' + 2 + 2, putI F k s.id, by omega, rfl, by omega, HO4.out, HC4.out, HK4.out⟩
                  case measure => simp [intOf]; omega
                | false =>
                  go_wp2
                  go_roundw
                  case rel => exact ⟨k, q - 1, a' + 2 + 2, F, by omega, rfl, by omega, HOm.out, HC4.out, HK4.out⟩
                  case measure => simp [intOf]; omega
            exact AllReadyZ.nil
          exact AllReadyZ.nil
        exact AllReadyZ.nil
      refine AllReadyZ.consL rfl (fun K hK => ?_) ?_
      · go_simp; refine hK.out _ _ (KS.out _ (by repeat (first | with_reducible exact HB1.out | with_reducible exact Below.refl _ _ | with_reducible refine Below.drew ?_ | with_reducible refine push ?_ _))) (fun hS => ?_)
        clear hK K
        simp only [List.set_cons_zero, List.set_cons_succ]
        refine wpAnyZ_ready (rs := [0]) (by kernel_rfl) (by simp) ?_
        refine AllReadyZ.consL rfl (fun K hK => ?_) ?_
        · go_simp; refine hK.out _ _ (KS.out _ (by repeat (first | with_reducible exact HB1.out | with_reducible exact Below.refl _ _ | with_reducible refine Below.drew ?_ | with_reducible refine push ?_ _))) (fun hS => ?_)
          clear hK K
          simp only [List.set_cons_zero]
          refine wpAnyZ_ready (rs := [2]) (by kernel_rfl) (by simp) ?_
          refine AllReadyZ.consL rfl (fun K hK => ?_) ?_
          · refine step_append_own0 (by rfl) (.tmp 28) (.tmp 29) 23 (by rfl) 3 n0 (.int .i64 0) 1 8 Tryz.underlying23 ni nz0 nz1 nz2 rfl (by decide) X.heap.size _ (by rfl) (by first | exact Nat.le_refl _ | omega | (simp; done) | (simp; omega)) (by repeat (first | ((with_reducible refine new_at _ _ _ ?_); (first | with_reducible rfl | (simp; done))) | with_reducible refine blk_drew ?_ | with_reducible refine blk_alloc ?_ _)) av k cv (intList F k) (by rfl) HAV.out (by rw [intList_length, Nat.mul_one]) (ints_cellsO (HLX.out _ (by repeat (first | exact Below.refl _ _ | refine Below.drew ?_ | refine push ?_ _)))) (intList_one _ _) (by unfold maxLen; omega) (by omega) ?_; intro p1 q1 u1 hg1 hr1 hat1; clear hat1; have HB1 : Hid (Below X.heap.size X u1) := (by show Below _ _ _; refine after ?_ (grown_below hg1); exact (by repeat (first | exact Below.refl _ _ | refine Below.drew ?_ | refine push ?_ _))); refine hK.out _ _ (KS.out _ HB1.out) (fun hS => ?_)
            clear hK K
            simp only [Act.put, List.setIfInBounds_toArray, List.set_cons_zero, List.set_cons_succ]
            refine wpAnyZ_ready (rs := [6]) (by kernel_rfl) (by simp) ?_
            refine AllReadyZ.consL rfl (fun K hK => ?_) ?_
            · refine step_append_lies _ (by rfl) (.tmp 30) (.tmp 33) 23 (by rfl) X.heap.size 3 n0 (.int .i64 0) 1 8 Tryz.underlying23 ni nz0 nz1 nz2 rfl (by decide) _ k (intList F k) (by rfl) (by first | exact hr1 | exact hr1.alloc _ | exact own_below (push (Below.refl _ _) _) hr1) _ 1 1 [.int .i64 s.id] (by rfl) (by rfl) (by refine World.news_of_block (cs := #[.int .i64 s.id]) (t := 3) (fr := (0, 0)) ?_; exact (by repeat (first | ((with_reducible refine new_at _ _ _ ?_); (first | with_reducible rfl | (simp; done))) | with_reducible refine blk_drew ?_ | with_reducible refine blk_alloc ?_ _ | with_reducible refine blk_below ?_ (grown_below hg1)))) (by intro u hu; simp at hu; subst hu; rfl) (by decide) (by unfold maxLen; omega) (by omega) (by first | exact HB1.out.size | (have := HB1.out.size; simp; omega)) _ rfl ?_; intro g2 cap2 u2 ho2 hg2 hat2 hlt2; refine (fun (HB2 : Hid (Below X.heap.size X u2)) => ?_) (Below.grown ?_ hg2 ?_ (fun j hj => (hr1.lt j hj).1)); rotate_left; (focus (repeat (first | with_reducible exact HB1.out | exact Below.refl _ _ | refine Below.drew ?_ | refine push ?_ _))); (focus (first | exact HB1.out.size | (have := HB1.out.size; simp; omega))); refine hK.out _ _ (KS.out _ HB2.out) (fun hS => ?_)
              clear hK K
              simp only [Act.put, List.setIfInBounds_toArray, List.set_cons_zero, List.set_cons_succ]
              refine wpAnyZ_ready (rs := [7]) (by kernel_rfl) (by simp) ?_
              refine AllReadyZ.lastL rfl (fun K hK => ?_)
              go_simp
              refine hK.out _ _ ?_
              clear hK K
              refine wpAnyZ_done (by kernel_rfl) ?_ _
              have HO2 : Hid (u2.ownsRow X.heap.size 3 1 (.slice (some ⟨g2, 0, none⟩) (k + 1) cap2) (k + 1) (intList (putI F k s.id) (k + 1))) := by
                show u2.ownsRow _ _ _ _ _ _
                rw [intList_putI]
                exact ho2
              clear hS hg1 hr1 hg2 hat2 hlt2 ho2 HB1
              have HKX : Hid (Kept w u2 (fun b => b = cb)) := HKw.out.trans (Kept.of_below HB2.out)
              have HCX : Hid (CurIs u2 cb ao n c (a' + 2)) := HCx.out.below HB2.out
              have HOo : Hid (u2.ownsRow w.heap.size 3 1 (.slice av k cv) k (intList F k)) := own_below HB2.out HOX.out
              have hszX : w.heap.size ≤ X.heap.size := HKw.out.size
              go_wp2_with fail
              refine (l3Fit_any (some ⟨sb0, so, none⟩) (some ⟨g2, 0, none⟩) N (k + 1) cs cap2 S (putI F k s.id) _ (by omega) (by omega) (HZ.out _ HKX.out) (own_ints HO2.out)).mono ?_
              rintro e u3 ⟨⟨tf, rfl, _⟩, hb3⟩
              have HO3 : Hid (u3.ownsRow w.heap.size 3 1 (.slice (some ⟨g2, 0, none⟩) (k + 1) cap2) (k + 1) (intList (putI F k s.id) (k + 1))) := own_below hb3 (own_base HO2.out hszX)
              have HOn : Hid (u3.ownsRow w.heap.size 3 1 (.slice av k cv) k (intList F k)) := own_below hb3 HOo.out
              have HK3 : Hid (Kept w u3 (fun b => b = cb)) := HKX.out.trans (Kept.of_below hb3)
              have HC3 : Hid (CurIs u3 cb ao n c (a' + 2)) := HCX.out.below hb3
              have hwq : IntKind.i64.wrap ((q : Int) - 1) = ((q - 1 : Nat) : Int) := by rw [IntKind.wrap_i64]; omega
              clear HO2 HOo HKX HCX hb3 HB2
              cases tf with
              | true =>
                go_wp2
                go_roundw
                case rel => exact ⟨k + 1, q - 1, a' + 2, putI F k s.id, by omega, rfl, by omega, HO3.out, HC3.out, HK3.out⟩
                case measure => simp [intOf]; omega
              | false =>
                go_wp2_with fail
                refine (one_any cb ao n c (a' + 2) 20 u3 (by omega) (by decide) (by decide) HC3.out).mono ?_
                rintro e u4 ⟨⟨tb, rfl⟩, hc4, hk4⟩
                have HC4 : Hid (CurIs u4 cb ao n c (a' + 2 + 2)) := hc4
                have HK4 : Hid (Kept w u4 (fun b => b = cb)) := HK3.out.trans hk4
                have hcw : ∀ g, w.heap.size ≤ g → ¬ g = cb := fun g h1 h2 => by omega
                have HO4 : Hid (u4.ownsRow w.heap.size 3 1 (.slice (some ⟨g2, 0, none⟩) (k + 1) cap2) (k + 1) (intList (putI F k s.id) (k + 1))) := hk4.own HO3.out (fun g hg => hcw g (HO3.out.lt g hg).1)
                have HOm : Hid (u4.ownsRow w.heap.size 3 1 (.slice av k cv) k (intList F k)) := hk4.own HOn.out (fun g hg => hcw g (HOn.out.lt g hg).1)
                clear hc4 hk4 HO3 HOn HC3 HK3 hcw
                cases tb with
                | true =>
                  go_wp2
                  go_roundw
                  case rel => exact ⟨k + 1, q - 1, a' + 2 + 2, putI F k s.id, by omega, rfl, by omega, HO4.out, HC4.out, HK4.out⟩
                  case measure => simp [intOf]; omega
                | false =>
                  go_wp2
                  go_roundw
                  case rel => exact ⟨k, q - 1, a' + 2 + 2, F, by omega, rfl, by omega, HOm.out, HC4.out, HK4.out⟩
                  case measure => simp [intOf]; omega
            exact AllReadyZ.nil
          exact AllReadyZ.nil
        exact AllReadyZ.nil
      exact AllReadyZ.nil
    · have hx : decide (0 < (q : Int)) = false ∨ (decide (0 < (q : Int)) = true ∧ decide (0 < (N : Int)) = false) := by
        by_cases c : 0 < q
        · exact .inr ⟨decide_eq_true (by omega), decide_eq_false (by omega)⟩
        · exact .inl (decide_eq_false (by omega))
      rcases hx with d1 | ⟨d1, d2⟩
      · have i0 : ¬ (0 : Int) < (q : Int) := of_decide_eq_false d1
        go_wp2_with fail
        refine Calls.mono (one_any cb ao n c a' 30 wr (by omega) (by decide) (by decide) HC.out) ?_
        rintro e u ⟨⟨tb, rfl⟩, hcu, hku⟩
        have HCU : Hid (CurIs u cb ao n c (a' + 2)) := hcu
        have HKU : Hid (Kept w u (fun b => b = cb)) := HK.out.trans hku
        have hne : ∀ g, w.heap.size ≤ g → ¬ g = cb := fun g h1 h2 => by omega
        have HOU : Hid (u.ownsRow w.heap.size 3 1 (.slice av k cv) k (intList F k)) := hku.own HOW.out (fun g hg => hne g (HOW.out.lt g hg).1)
        clear hcu hku HC HK HOW
        cases tb with
        | false =>
          go_wp2
          go_ret
          exact ⟨⟨_, k, F, by omega, rfl, HOU.out⟩, HCU.out.more (by omega), HKU.out⟩
        | true =>
          have hpu : Below u.heap.size u (u.alloc (.cells #[.int .i64 0, .int .i64 7, .int .i64 100] 3)) := push (Below.refl _ _) _
          have bL := heap_alloc_new u (.cells #[.int .i64 0, .int .i64 7, .int .i64 100] 3)
          have hcu2 := HCU.out.lt
          go_wp2_with fail
          refine (amongL cb ao n c (a' + 2) 3 [0, 7, 100] _ rfl (by omega) (by decide) (by decide) (HCU.out.below hpu) u.heap.size bL (by omega)).mono ?_
          rintro e u2 ⟨⟨x, rfl⟩, hc2, hk2⟩
          have HC2 : Hid (CurIs u2 cb ao n c (a' + 2 + 2)) := hc2
          have HK2 : Hid (Kept w u2 (fun b => b = cb)) := (HKU.out.trans (Kept.of_below hpu)).trans hk2
          have HO2 : Hid (u2.ownsRow w.heap.size 3 1 (.slice av k cv) k (intList F k)) := hk2.own (own_below hpu HOU.out) (fun g hg => hne g (HOU.out.lt g hg).1)
          have hsz2 := HK2.out.size
          have HN1 : Hid (∀ ad, (some ⟨u2.heap.size, 0, none⟩ : Option Addr) = some ad → ∀ j v, [Value.int .i64 x][j]? = some v → (u2.alloc (.cells #[.int .i64 x] 3)).cell? (ad.add j) = some v) := by
            intro ad e
            cases e
            exact World.news_of_block (heap_alloc_new u2 _)
          clear hc2 hk2 bL hpu
          go_wp2_with (first | (at_builtin; refine wpList_append_any _ (by rfl) (.tmp 45) (.tmp 49) 23 (by rfl) w.heap.size 3 n0 (.int .i64 0) 1 8 Tryz.underlying23 ni nz0 nz1 nz2 rfl (by decide) _ k (intList F k) (by rfl) (HO2.out.alloc _) (some ⟨u2.heap.size, 0, none⟩) 1 1 [.int .i64 x] (by rfl) (fun h => (by cases h)) (by rfl) HN1.out (by intro v hv; simp at hv; subst hv; rfl) (by unfold maxLen; omega) (by omega) (by simp; omega) ?_; intro v4 w4 ho4 hg4))
          go_ret
          have hbg := (push (Below.refl u2.heap.size u2) (.cells #[.int .i64 x] 3))
          refine ⟨⟨_, k + 1, putI F k x, by omega, rfl, by rw [intList_putI]; exact ho4⟩, ?_, ?_⟩
          · refine ((HC2.out.below hbg).far (kept_row hg4) (fun e => ?_) (fun i hi b off e1 e2 => ?_)).more (by omega)
            · have := (HO2.out.lt cb e).1
              omega
            · have := HL.out i hi b off e1
              have := (HO2.out.lt b e2).1
              omega
          · exact (HK2.out.trans (Kept.of_below hbg)).over (kept_row hg4) (fun b e => (HO2.out.lt b e).1)
      · have i0 : (0 : Int) < (q : Int) := of_decide_eq_true d1
        have i1 : ¬ (0 : Int) < (N : Int) := of_decide_eq_false d2
        go_wp2_with fail
        refine Calls.mono (one_any cb ao n c a' 30 wr (by omega) (by decide) (by decide) HC.out) ?_
        rintro e u ⟨⟨tb, rfl⟩, hcu, hku⟩
        have HCU : Hid (CurIs u cb ao n c (a' + 2)) := hcu
        have HKU : Hid (Kept w u (fun b => b = cb)) := HK.out.trans hku
        have hne : ∀ g, w.heap.size ≤ g → ¬ g = cb := fun g h1 h2 => by omega
        have HOU : Hid (u.ownsRow w.heap.size 3 1 (.slice av k cv) k (intList F k)) := hku.own HOW.out (fun g hg => hne g (HOW.out.lt g hg).1)
        clear hcu hku HC HK HOW
        cases tb with
        | false =>
          go_wp2
          go_ret
          exact ⟨⟨_, k, F, by omega, rfl, HOU.out⟩, HCU.out.more (by omega), HKU.out⟩
        | true =>
          have hpu : Below u.heap.size u (u.alloc (.cells #[.int .i64 0, .int .i64 7, .int .i64 100] 3)) := push (Below.refl _ _) _
          have bL := heap_alloc_new u (.cells #[.int .i64 0, .int .i64 7, .int .i64 100] 3)
          have hcu2 := HCU.out.lt
          go_wp2_with fail
          refine (amongL cb ao n c (a' + 2) 3 [0, 7, 100] _ rfl (by omega) (by decide) (by decide) (HCU.out.below hpu) u.heap.size bL (by omega)).mono ?_
          rintro e u2 ⟨⟨x, rfl⟩, hc2, hk2⟩
          have HC2 : Hid (CurIs u2 cb ao n c (a' + 2 + 2)) := hc2
          have HK2 : Hid (Kept w u2 (fun b => b = cb)) := (HKU.out.trans (Kept.of_below hpu)).trans hk2
          have HO2 : Hid (u2.ownsRow w.heap.size 3 1 (.slice av k cv) k (intList F k)) := hk2.own (own_below hpu HOU.out) (fun g hg => hne g (HOU.out.lt g hg).1)
          have hsz2 := HK2.out.size
          have HN1 : Hid (∀ ad, (some ⟨u2.heap.size, 0, none⟩ : Option Addr) = some ad → ∀ j v, [Value.int .i64 x][j]? = some v → (u2.alloc (.cells #[.int .i64 x] 3)).cell? (ad.add j) = some v) := by
            intro ad e
            cases e
            exact World.news_of_block (heap_alloc_new u2 _)
          clear hc2 hk2 bL hpu
          go_wp2_with (first | (at_builtin; refine wpList_append_any _ (by rfl) (.tmp 45) (.tmp 49) 23 (by rfl) w.heap.size 3 n0 (.int .i64 0) 1 8 Tryz.underlying23 ni nz0 nz1 nz2 rfl (by decide) _ k (intList F k) (by rfl) (HO2.out.alloc _) (some ⟨u2.heap.size, 0, none⟩) 1 1 [.int .i64 x] (by rfl) (fun h => (by cases h)) (by rfl) HN1.out (by intro v hv; simp at hv; subst hv; rfl) (by unfold maxLen; omega) (by omega) (by simp; omega) ?_; intro v4 w4 ho4 hg4))
          go_ret
          have hbg := (push (Below.refl u2.heap.size u2) (.cells #[.int .i64 x] 3))
          refine ⟨⟨_, k + 1, putI F k x, by omega, rfl, by rw [intList_putI]; exact ho4⟩, ?_, ?_⟩
          · refine ((HC2.out.below hbg).far (kept_row hg4) (fun e => ?_) (fun i hi b off e1 e2 => ?_)).more (by omega)
            · have := (HO2.out.lt cb e).1
              omega
            · have := HL.out i hi b off e1
              have := (HO2.out.lt b e2).1
              omega
          · exact (HK2.out.trans (Kept.of_below hbg)).over (kept_row hg4) (fun b e => (HO2.out.lt b e).1)

end Go.Proofs.YtfallpinmhbemaaGreatDoor

namespace Go.Proofs.YtfallpinmhbemaaGreatDoor
open Go.RowKit

/-- In the midst of an office's drawing. -/
structure FSit (w u : World) (cb : Nat) (ao : Option Addr) (n c a ob : Nat) (x : Off) (a1 a2 a3 : Option Addr) (c1 c2 c3 : Nat) (L C A B D E : Nat → Value) : Prop where
  cur : CurIs u cb ao n c a
  kept : Kept w u (fun b => b = cb)
  lt : w.heap.size < ob
  res : u.heap[w.heap.size]? = some (.cells #[.slice none 0 0, .slice none 0 0, .slice none 0 0] 66 (0, 0))
  box : u.heap[ob]? = some (.cells #[.slice a1 x.san c1, .slice a2 x.ldn c2, .slice a3 x.bkn c3] 66 (0, 0))
  own : OwnOff u w.heap.size (.slice a1 x.san c1) (.slice a2 x.ldn c2) (.slice a3 x.bkn c3) x.san x.ldn x.bkn x L C A B D E
section
variable {w u u' : World} {cb n c a a' ob : Nat} {ao : Option Addr} {x : Off} {a1 a2 a3 : Option Addr} {c1 c2 c3 : Nat} {L C A B D E : Nat → Value}
theorem OwnOff.cur {v1 v2 v3 : Value} {base n1 n2 n3 : Nat} (h : OwnOff u base v1 v2 v3 n1 n2 n3 x L C A B D E) (hc : CurIs u cb ao n c a) (hk : Kept u u' (fun b => b = cb)) : OwnOff u' base v1 v2 v3 n1 n2 n3 x L C A B D E := by
  obtain ⟨⟨p, s, hp, hb⟩, _⟩ := hc
  exact h.box hk hb (by decide)
theorem FSit.on (h : FSit w u cb ao n c a ob x a1 a2 a3 c1 c2 c3 L C A B D E) (hcb : cb < w.heap.size) (hc : CurIs u' cb ao n c a') (hk : Kept u u' (fun b => b = cb)) : FSit w u' cb ao n c a' ob x a1 a2 a3 c1 c2 c3 L C A B D E :=
  have h1 := h.lt
  ⟨hc, h.kept.trans hk, h.lt, hk.blk h.res (by omega), hk.blk h.box (by omega), h.own.cur h.cur hk⟩
theorem FSit.below (h : FSit w u cb ao n c a ob x a1 a2 a3 c1 c2 c3 L C A B D E) (hb : Below u.heap.size u u') : FSit w u' cb ao n c a ob x a1 a2 a3 c1 c2 c3 L C A B D E :=
  ⟨h.cur.below hb, h.kept.trans (Kept.of_below hb), h.lt, blk_below h.res hb, blk_below h.box hb, h.own.below hb⟩
theorem FSit.more (h : FSit w u cb ao n c a ob x a1 a2 a3 c1 c2 c3 L C A B D E) (ha : a ≤ a') : FSit w u cb ao n c a' ob x a1 a2 a3 c1 c2 c3 L C A B D E :=
  ⟨h.cur.more ha, h.kept, h.lt, h.res, h.box, h.own⟩
theorem FSit.sails (h : FSit w u cb ao n c a ob x a1 a2 a3 c1 c2 c3 L C A B D E) : ∀ z, Kept u z (fun b => b = cb) → SailsAt z a1 x.san x.sa := fun _ hk => (h.own.cur h.cur hk).sa.at
theorem FSit.cap (h : FSit w u cb ao n c a ob x a1 a2 a3 c1 c2 c3 L C A B D E) : x.bkn ≤ c3 := by
  obtain ⟨b, d, e, h1, _⟩ := own_form h.own.bk.row
  cases e
  exact h1
theorem FSit.s (h : FSit w u cb ao n c a ob x a1 a2 a3 c1 c2 c3 L C A B D E) : u.cell? ⟨ob, 0, none⟩ = some (.slice a1 x.san c1) ∧ u.cell? ⟨ob, 1, none⟩ = some (.slice a2 x.ldn c2) ∧ u.cell? ⟨ob, 2, none⟩ = some (.slice a3 x.bkn c3) :=
  ⟨blk_cell h.box 0 _ rfl, blk_cell h.box 1 _ rfl, blk_cell h.box 2 _ rfl⟩
/-- The office's box is told anew. -/
theorem FSit.to {x2 : Off} {b1 b2 b3 : Option Addr} {d1 d2 d3 : Nat} {L2 C2 A2 B2 D2 E2 : Nat → Value} (h : FSit w u cb ao n c a ob x a1 a2 a3 c1 c2 c3 L C A B D E) (hcb : cb < w.heap.size) (hl : LowCode w ao n)
    (h2 : OwnOff u w.heap.size (.slice b1 x2.san d1) (.slice b2 x2.ldn d2) (.slice b3 x2.bkn d3) x2.san x2.ldn x2.bkn x2 L2 C2 A2 B2 D2 E2) :
    FSit w (((u.setCell ⟨ob, 0, none⟩ (.slice b1 x2.san d1)).setCell ⟨ob, 1, none⟩ (.slice b2 x2.ldn d2)).setCell ⟨ob, 2, none⟩ (.slice b3 x2.bkn d3)) cb ao n c a ob x2 b1 b2 b3 d1 d2 d3 L2 C2 A2 B2 D2 E2 := by
  have h0 := h.lt
  have e1 : cb ≠ ob := by omega
  have e2 : ∀ k, k < n → ∀ b off, ao = some ⟨b, off, none⟩ → b ≠ ob := fun k hk b off e => by have := hl k hk b off e; omega
  have hk : Kept u (((u.setCell ⟨ob, 0, none⟩ (.slice b1 x2.san d1)).setCell ⟨ob, 1, none⟩ (.slice b2 x2.ldn d2)).setCell ⟨ob, 2, none⟩ (.slice b3 x2.bkn d3)) (fun b => b = ob) := (((Kept.refl u (fun b => b = ob)).set (a := ⟨ob, 0, none⟩) rfl _).set (a := ⟨ob, 1, none⟩) rfl _).set (a := ⟨ob, 2, none⟩) rfl _
  exact ⟨((h.cur.box e1 e2 0 _).box e1 e2 1 _).box e1 e2 2 _, kept_far (kept_far (kept_far h.kept (by omega) _ _) (by omega) _ _) (by omega) _ _, h.lt, blk_set_other (blk_set_other (blk_set_other h.res 0 _ (by omega)) 1 _ (by omega)) 2 _ (by omega), off3_n h.box _ _ _, h2.box hk h.box (by decide)⟩
/-- A store elsewhere, into a box of another type or another box. -/
theorem FSit.other {g t : Nat} {cs : Array Value} (h : FSit w u cb ao n c a ob x a1 a2 a3 c1 c2 c3 L C A B D E) (hcb : cb < w.heap.size) (hl : LowCode w ao n) (hk : Kept u u' (fun b => b = g)) (hg : u.heap[g]? = some (.cells cs t (0, 0)))
    (ht : 37 ≠ t ∧ 106 ≠ t ∧ 110 ≠ t ∧ 136 ≠ t ∧ 186 ≠ t ∧ 190 ≠ t ∧ 138 ≠ t ∧ 131 ≠ t ∧ 3 ≠ t) (h1 : ob < g) : FSit w u' cb ao n c a ob x a1 a2 a3 c1 c2 c3 L C A B D E := by
  have h0 := h.lt
  exact ⟨h.cur.far hk (by omega) (fun k hk' b off e => by have := hl k hk' b off e; omega), h.kept.over hk (fun b e => by have e : b = g := e; omega), h.lt, hk.blk h.res (by omega), hk.blk h.box (by omega), h.own.box hk hg ht⟩
theorem FSit.ob_lt (h : FSit w u cb ao n c a ob x a1 a2 a3 c1 c2 c3 L C A B D E) : ob < u.heap.size := blk_lt h.box
theorem CurX.is (h : CurX u cb ao n c a) : CurIs u cb ao n c a := by
  obtain ⟨p, s, hp, hc⟩ := h
  exact hc.is.more hp
end

end Go.Proofs.YtfallpinmhbemaaGreatDoor

namespace Go.Proofs.YtfallpinmhbemaaGreatDoor
open Go.RowKit

structure WSit (w u : World) (cb : Nat) (ao : Option Addr) (n c a ob : Nat) (N : Nat) (S : Nat → Sail) (a1 a2 a3 : Option Addr) (m2 m3 c1 c2 c3 : Nat) (L C : Nat → Value) : Prop where
  cur : CurIs u cb ao n c a
  kept : Kept w u (fun b => b = cb)
  lt : w.heap.size < ob
  res : u.heap[w.heap.size]? = some (.cells #[.slice none 0 0, .slice none 0 0, .slice none 0 0] 66 (0, 0))
  box : u.heap[ob]? = some (.cells #[.slice a1 N c1, .slice a2 m2 c2, .slice a3 m3 c3] 66 (0, 0))
  sa : OwnSails u w.heap.size (.slice a1 N c1) N S L C
section
variable {w u u' : World} {cb n c a a' ob N : Nat} {S : Nat → Sail} {ao : Option Addr} {a1 a2 a3 : Option Addr} {m2 m3 c1 c2 c3 : Nat} {L C : Nat → Value}
theorem FSit.weak {x : Off} {A B D E : Nat → Value} (h : FSit w u cb ao n c a ob x a1 a2 a3 c1 c2 c3 L C A B D E) : WSit w u cb ao n c a ob x.san x.sa a1 a2 a3 x.ldn x.bkn c1 c2 c3 L C := ⟨h.cur, h.kept, h.lt, h.res, h.box, h.own.sa⟩
theorem WSit.on (h : WSit w u cb ao n c a ob N S a1 a2 a3 m2 m3 c1 c2 c3 L C) (hcb : cb < w.heap.size) (hc : CurIs u' cb ao n c a') (hk : Kept u u' (fun b => b = cb)) : WSit w u' cb ao n c a' ob N S a1 a2 a3 m2 m3 c1 c2 c3 L C := by
  have h1 := h.lt
  obtain ⟨⟨p, s, hp, hb⟩, _⟩ := h.cur
  exact ⟨hc, h.kept.trans hk, h.lt, hk.blk h.res (by omega), hk.blk h.box (by omega), h.sa.other hk (fun b e => by have e : b = cb := e; subst e; exact ⟨_, _, hb, by decide, by decide, by decide⟩)⟩
theorem WSit.below (h : WSit w u cb ao n c a ob N S a1 a2 a3 m2 m3 c1 c2 c3 L C) (hb : Below u.heap.size u u') : WSit w u' cb ao n c a ob N S a1 a2 a3 m2 m3 c1 c2 c3 L C :=
  ⟨h.cur.below hb, h.kept.trans (Kept.of_below hb), h.lt, blk_below h.res hb, blk_below h.box hb, h.sa.below hb⟩
theorem WSit.more (h : WSit w u cb ao n c a ob N S a1 a2 a3 m2 m3 c1 c2 c3 L C) (ha : a ≤ a') : WSit w u cb ao n c a' ob N S a1 a2 a3 m2 m3 c1 c2 c3 L C :=
  ⟨h.cur.more ha, h.kept, h.lt, h.res, h.box, h.sa⟩
theorem WSit.sails (h : WSit w u cb ao n c a ob N S a1 a2 a3 m2 m3 c1 c2 c3 L C) : ∀ z, Kept u z (fun b => b = cb) → SailsAt z a1 N S := fun z hk => by
  obtain ⟨⟨p, s, hp, hb⟩, _⟩ := h.cur
  exact (h.sa.other hk (fun b e => by have e : b = cb := e; subst e; exact ⟨_, _, hb, by decide, by decide, by decide⟩)).at
theorem WSit.s (h : WSit w u cb ao n c a ob N S a1 a2 a3 m2 m3 c1 c2 c3 L C) : u.cell? ⟨ob, 0, none⟩ = some (.slice a1 N c1) ∧ u.cell? ⟨ob, 1, none⟩ = some (.slice a2 m2 c2) ∧ u.cell? ⟨ob, 2, none⟩ = some (.slice a3 m3 c3) :=
  ⟨blk_cell h.box 0 _ rfl, blk_cell h.box 1 _ rfl, blk_cell h.box 2 _ rfl⟩
/-- Writes into rows of other types. -/
theorem WSit.far {T : Nat → Prop} (h : WSit w u cb ao n c a ob N S a1 a2 a3 m2 m3 c1 c2 c3 L C) (hcb : cb < w.heap.size) (hl : LowCode w ao n) (hk : Kept u u' T)
    (hT : ∀ b, T b → w.heap.size ≤ b ∧ ∃ cs t, u.heap[b]? = some (.cells cs t (0, 0)) ∧ 66 ≠ t ∧ 37 ≠ t ∧ 106 ≠ t ∧ 110 ≠ t) : WSit w u' cb ao n c a ob N S a1 a2 a3 m2 m3 c1 c2 c3 L C := by
  have ne : ∀ b cs, u.heap[b]? = some (.cells cs 66 (0, 0)) → ¬ T b := fun b cs hb ht => by
    obtain ⟨_, cs', t, h1, h2, _⟩ := hT b ht
    rw [hb] at h1
    simp only [Option.some.injEq, Obj.cells.injEq] at h1
    exact h2 h1.2.1
  exact ⟨h.cur.far hk (fun t => by have := (hT _ t).1; omega) (fun k hk' b off e t => by have := hl k hk' b off e; have := (hT _ t).1; omega), h.kept.over hk (fun b t => (hT b t).1), h.lt, hk.blk h.res (ne _ _ h.res), hk.blk h.box (ne _ _ h.box), h.sa.other hk (fun b t => by obtain ⟨_, cs, t', h1, _, h2⟩ := hT b t; exact ⟨cs, t', h1, h2⟩)⟩
/-- The bookings' cell of the office's box is told anew. -/
theorem WSit.put2 (h : WSit w u cb ao n c a ob N S a1 a2 a3 m2 m3 c1 c2 c3 L C) (hcb : cb < w.heap.size) (hl : LowCode w ao n) (b3 : Option Addr) (q3 d3 : Nat) : WSit w (u.setCell ⟨ob, 2, none⟩ (.slice b3 q3 d3)) cb ao n c a ob N S a1 a2 b3 m2 q3 c1 c2 d3 L C := by
  have h0 := h.lt
  have hk : Kept u (u.setCell ⟨ob, 2, none⟩ (.slice b3 q3 d3)) (fun b => b = ob) := (Kept.refl u (fun b => b = ob)).set (a := ⟨ob, 2, none⟩) rfl _
  exact ⟨h.cur.box (by omega) (fun k hk b off e => by have := hl k hk b off e; omega) 2 _, kept_far h.kept (by omega) _ _, h.lt, blk_set_other h.res 2 _ (by omega), blk_set h.box 2 _, h.sa.other hk (fun b e => by have e : b = ob := e; subst e; exact ⟨_, _, h.box, by decide, by decide, by decide⟩)⟩
/-- The office's box copied into the answer's. -/
theorem WSit.fin (h : WSit w u cb ao n c a ob N S a1 a2 a3 m2 m3 c1 c2 c3 L C) (hcb : cb < w.heap.size) (hl : LowCode w ao n) (v1 v2 v3 : Value) :
    CurIs (((u.setCell ⟨w.heap.size, 0, none⟩ v1).setCell ⟨w.heap.size, 1, none⟩ v2).setCell ⟨w.heap.size, 2, none⟩ v3) cb ao n c a ∧ Kept w (((u.setCell ⟨w.heap.size, 0, none⟩ v1).setCell ⟨w.heap.size, 1, none⟩ v2).setCell ⟨w.heap.size, 2, none⟩ v3) (fun b => b = cb) ∧ (((u.setCell ⟨w.heap.size, 0, none⟩ v1).setCell ⟨w.heap.size, 1, none⟩ v2).setCell ⟨w.heap.size, 2, none⟩ v3).heap[w.heap.size]? = some (.cells #[v1, v2, v3] 66 (0, 0)) ∧
      OwnSails (((u.setCell ⟨w.heap.size, 0, none⟩ v1).setCell ⟨w.heap.size, 1, none⟩ v2).setCell ⟨w.heap.size, 2, none⟩ v3) w.heap.size (.slice a1 N c1) N S L C := by
  have hk : Kept u (((u.setCell ⟨w.heap.size, 0, none⟩ v1).setCell ⟨w.heap.size, 1, none⟩ v2).setCell ⟨w.heap.size, 2, none⟩ v3) (fun b => b = w.heap.size) := (((Kept.refl u (fun b => b = w.heap.size)).set (a := ⟨w.heap.size, 0, none⟩) rfl _).set (a := ⟨w.heap.size, 1, none⟩) rfl _).set (a := ⟨w.heap.size, 2, none⟩) rfl _
  exact ⟨h.cur.far hk (by omega) (fun k hk' b off e => by have := hl k hk' b off e; omega), h.kept.over hk (fun b e => by have e : b = w.heap.size := e; omega), off3_n h.res _ _ _, h.sa.other hk (fun b e => by have e : b = w.heap.size := e; subst e; exact ⟨_, _, h.res, by decide, by decide, by decide⟩)⟩
end

end Go.Proofs.YtfallpinmhbemaaGreatDoor

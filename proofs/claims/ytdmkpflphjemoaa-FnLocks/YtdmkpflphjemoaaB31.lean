/-
  OWN TEXT: KitZ, DrawLk.
-/
import Derived.Deep.RegionHeld3
import Derived.Deep.LoopGhost
import Derived.Deep.AppendLies
import Derived.Deep.DeepCutAuto
import Derived.Deep.CutBlock
import Derived.Test.YtdmkpflphjemoaaB00
import Derived.Test.YtdmkpflphjemoaaB30
namespace Go.Proofs.Ytdmkpflphjemoaa
open Go.RowKit

section
variable {P : Program} {ops : Array Oper} {Q : Exit → Act → World → Prop} {md : Region.Mode} {S : World → Prop} {z : Nat}

/-- Whatever order is picked, and S holds behind every operation but z. -/
def wpAnyZ (P : Program) (md : Region.Mode) (ops : Array Oper) (Q : Exit → Act → World → Prop) (S : World → Prop) (z : Nat) : Nat → Array Bool → Act → World → Prop
  | 0, listed, a, w => Region.ready md ops listed = [] ∧ Q .normal a w
  | fuel + 1, listed, a, w =>
    (Region.ready md ops listed = [] → Q .normal a w) ∧
    ∀ i ∈ Region.ready md ops listed, wpOp P ops Q i (fun a' w' => (i ≠ z → S w') ∧ wpAnyZ P md ops Q S z fuel (listed.setIfInBounds i true) a' w') a w
theorem wpAny_of_z : ∀ (fuel : Nat) (listed : Array Bool) (a : Act) (w : World), wpAnyZ P md ops Q S z fuel listed a w → wpAny P md ops Q fuel listed a w
  | 0, _, _, _, h => h
  | fuel + 1, _, _, _, h => ⟨h.1, fun i hi => wpOp_mono (fun a' w' h' => wpAny_of_z fuel _ a' w' h'.2) (h.2 i hi)⟩
/-- Some later operation waits for each but z. -/
def waitedZ (md : Region.Mode) (ops : Array Oper) (z : Nat) : Bool :=
  (List.range ops.size).all fun j => j == z || (List.range ops.size).any fun s => decide (j < s) && ((ops[s]?).map fun o => o.after.any fun e => Region.binds md e && e.on == j).getD false
/-- What has come up has come up behind what it waits for. -/
def shutB (md : Region.Mode) (ops : Array Oper) (listed : Array Bool) : Bool :=
  (List.range ops.size).all fun s => !listed.getD s false || ((ops[s]?).map fun o => o.after.all fun e => !Region.binds md e || listed.getD e.on false).getD true
def ShutL (md : Region.Mode) (ops : Array Oper) (listed : Array Bool) : Prop :=
  ∀ s o, ops[s]? = some o → listed.getD s false = true → ∀ e ∈ o.after, Region.binds md e = true → listed.getD e.on false = true
theorem shut_of {listed : Array Bool} (h : shutB md ops listed = true) : ShutL md ops listed := fun s o ho hl e he hb => by
  unfold shutB at h
  rw [List.all_eq_true] at h
  have hlt : s < ops.size := (Array.getElem?_eq_some_iff.1 ho).1
  have h1 := h s (List.mem_range.2 hlt)
  rw [hl, ho] at h1
  simp only [Bool.not_true, Bool.false_or, Option.map_some, Option.getD_some, Array.all_eq_true_iff_forall_mem] at h1
  have h2 := h1 e he
  rw [hb] at h2
  simpa using h2
theorem shut_set {listed : Array Bool} {i : Nat} (h : ShutL md ops listed) (hi : i ∈ Region.ready md ops listed) : ShutL md ops (listed.setIfInBounds i true) := fun s o ho hl e he hb => by
  by_cases c : i = s
  · subst c
    obtain ⟨_, o', ho', hall⟩ := mem_ready.1 hi
    rw [ho] at ho'
    cases ho'
    exact getD_set_true (hall e he hb)
  · rw [getD_set_ne false c] at hl
    exact getD_set_true (h s o ho hl e he hb)
/-- Where z may come up all others have. -/
theorem all_listed {listed : Array Bool} (hw : waitedZ md ops z = true) (hz : z + 1 = ops.size) (hs : ShutL md ops listed) (hr : z ∈ Region.ready md ops listed) : ∀ m j, j + m = z → j ≠ z → listed.getD j false = true := by
  intro m
  induction m using Nat.strongRecOn with
  | ind m ih =>
    intro j hjm hj
    unfold waitedZ at hw
    rw [List.all_eq_true] at hw
    have h1 := hw j (List.mem_range.2 (by omega))
    rw [Bool.or_eq_true] at h1
    rcases h1 with h1 | h1
    · exact absurd (by simpa using h1) hj
    · rw [List.any_eq_true] at h1
      obtain ⟨s, hsr, h2⟩ := h1
      rw [Bool.and_eq_true] at h2
      have hjs : j < s := by simpa using h2.1
      have hsl : s < ops.size := List.mem_range.1 hsr
      cases ho : ops[s]? with
      | none => rw [ho] at h2; simp at h2
      | some o =>
        rw [ho] at h2
        simp only [Option.map_some, Option.getD_some, Array.any_eq_true', Bool.and_eq_true] at h2
        obtain ⟨_, e, he, hb, hon⟩ := h2
        have hon : e.on = j := by simpa using hon
        by_cases c : s = z
        · subst c
          obtain ⟨_, o', ho', hall⟩ := mem_ready.1 hr
          rw [ho] at ho'
          cases ho'
          rw [← hon]
          exact hall e he hb
        · have := ih (z - s) (by omega) s (by omega) c
          rw [← hon]
          exact hs s o ho this e he hb
theorem wpAnyZ_first {i : Nat} {oi : Oper} {v : Value} (hi : ops[i]? = some oi) (hiz : i ≠ z) (hw : waitedZ md ops z = true) (hz : z + 1 = ops.size) (hsel : ∀ (j : Nat) (o : Oper) cs b, ops[j]? = some o → o.op ≠ .select cs b)
    (hQ : ∀ c a w, Q (.panic c) (a.put oi.dst v) w → Q (.panic c) a w) :
    ∀ (fuel : Nat) (listed : Array Bool) (a : Act) (w : World), ShutL md ops listed →
      (∀ j oj, ops[j]? = some oj → j ≠ i → listed.getD j true = false → (∀ e ∈ oj.after, Region.binds md e = true → e.on ≠ i) → oi.apart ops oj = true) →
      i ∈ Region.ready md ops listed → YieldsIf P ops S oi v a → S w →
      wpAnyZ P md ops Q S z fuel (listed.setIfInBounds i true) (a.put oi.dst v) w → wpAnyZ P md ops Q S z (fuel + 1) listed a w := by
  intro fuel
  induction fuel with
  | zero =>
    intro listed a w _ _ hr hy hS H
    refine ⟨fun h => (by rw [h] at hr; cases hr), fun j hj => ?_⟩
    by_cases hji : j = i
    · subst hji; exact hy.wpOp hi hS ⟨fun _ => hS, H⟩
    · have := ready_mono hj hji
      rw [H.1] at this
      cases this
  | succ fuel ih =>
    intro listed a w hsh hfree hr hy hS H
    refine ⟨fun h => (by rw [h] at hr; cases hr), fun j hj => ?_⟩
    by_cases hji : j = i
    · subst hji; exact hy.wpOp hi hS ⟨fun _ => hS, H⟩
    · have hjz : j ≠ z := fun e => by
        subst e
        have hlt : i < ops.size := (Array.getElem?_eq_some_iff.1 hi).1
        have h1 := all_listed hw hz hsh hj (j - i) i (by omega) hiz
        have h0 := (mem_ready.1 hr).1
        rcases Nat.lt_or_ge i listed.size with h' | h'
        · simp [h'] at h0 h1; rw [h0] at h1; cases h1
        · simp [Array.getElem?_eq_none h'] at h1
      have h1 := H.2 j (ready_mono hj hji)
      obtain ⟨hjun, oj, hoj, hall⟩ := mem_ready.1 hj
      have hnot : ∀ e ∈ oj.after, Region.binds md e = true → e.on ≠ i := fun e he hb heq => by
        have h1 := hall e he hb
        have h0 := (mem_ready.1 hr).1
        rw [heq] at h1
        rcases Nat.lt_or_ge i listed.size with h' | h'
        · simp [h'] at h0 h1; rw [h0] at h1; cases h1
        · simp [Array.getElem?_eq_none h'] at h1
      have h2 := wpOp_putIf hoj (hfree j oj hoj hji hjun hnot) (fun cs b => hsel i oi cs b hi) (fun cs b => hsel j oj cs b hoj) hQ hy h1
      have hfree' : ∀ k ok, ops[k]? = some ok → k ≠ i → (listed.setIfInBounds j true).getD k true = false →
          (∀ e ∈ ok.after, Region.binds md e = true → e.on ≠ i) → oi.apart ops ok = true := fun k ok hk hki hun hno => by
        refine hfree k ok hk hki ?_ hno
        by_cases hjk : j = k
        · subst hjk; exact hjun
        · rw [getD_set_ne true hjk] at hun; exact hun
      refine wpOp_mono (fun a' w' h3 => ⟨h3.2.1, ih (listed.setIfInBounds j true) a' w' (shut_set hsh hj) hfree' (ready_mono hr (Ne.symm hji)) h3.1 (h3.2.1 hjz) ?_⟩) h2
      rw [Array.setIfInBounds_comm _ _ hji]
      exact h3.2.2
theorem wpAnyZ_take {i : Nat} {oi : Oper} {v : Value} {fuel : Nat} {listed : Array Bool} {a : Act} {w : World} (hi : ops[i]? = some oi)
    (hs : Region.noSelect ops = true) (hf : Region.free md ops listed i = true) (hr : (Region.ready md ops listed).contains i = true) (hk : (!(i == z) && waitedZ md ops z && shutB md ops listed && (z + 1 == ops.size)) = true)
    (hQ : ∀ c a w, Q (.panic c) (a.put oi.dst v) w → Q (.panic c) a w) (hy : YieldsIf P ops S oi v a) (hS : S w)
    (h : wpAnyZ P md ops Q S z fuel (listed.setIfInBounds i true) (a.put oi.dst v) w) : wpAnyZ P md ops Q S z (fuel + 1) listed a w := by
  simp only [Bool.and_eq_true, Bool.not_eq_true', beq_eq_false_iff_ne, ne_eq, beq_iff_eq] at hk
  exact wpAnyZ_first hi hk.1.1.1 hk.1.1.2 hk.2 (Region.noSelect_spec hs) hQ fuel listed a w (shut_of hk.1.2) (Region.free_spec hi hf) (by simpa using hr) hy hS h
/-- Each of the operations rs comes up next. -/
def AllReadyZ (P : Program) (md : Region.Mode) (ops : Array Oper) (Q : Exit → Act → World → Prop) (S : World → Prop) (z fuel : Nat) (listed : Array Bool) (a : Act) (w : World) (rs : List Nat) : Prop :=
  ∀ i ∈ rs, wpOp P ops Q i (fun a' w' => (i ≠ z → S w') ∧ wpAnyZ P md ops Q S z fuel (listed.setIfInBounds i true) a' w') a w
theorem AllReadyZ.nil {fuel : Nat} {listed : Array Bool} {a : Act} {w : World} : AllReadyZ P md ops Q S z fuel listed a w [] := fun _ h => by cases h
theorem AllReadyZ.cons {fuel : Nat} {listed : Array Bool} {a : Act} {w : World} {i : Nat} {o : Oper} {rs : List Nat} (ho : ops[i]? = some o)
    (h : ∀ K' : Act → World → Prop, Shut (∀ a w, S w → (S w → wpAnyZ P md ops Q S z fuel (listed.setIfInBounds i true) a w) → K' a w) → if Region.wanted o (yielded ops a.tmps) = true then Oper.wp P o a w K' Q else K' (a.put o.dst undef) w)
    (hs : AllReadyZ P md ops Q S z fuel listed a w rs) : AllReadyZ P md ops Q S z fuel listed a w (i :: rs) := fun j hj => by
  rcases List.mem_cons.1 hj with rfl | hj
  · exact wpOp_step ho (fun K' hK => h K' (fun a w hS hW => hK a w ⟨fun _ => hS, hW hS⟩))
  · exact hs j hj
/-- The last operation. -/
theorem AllReadyZ.last {fuel : Nat} {listed : Array Bool} {a : Act} {w : World} {o : Oper} (ho : ops[z]? = some o)
    (h : ∀ K' : Act → World → Prop, Shut (∀ a w, wpAnyZ P md ops Q S z fuel (listed.setIfInBounds z true) a w → K' a w) → if Region.wanted o (yielded ops a.tmps) = true then Oper.wp P o a w K' Q else K' (a.put o.dst undef) w) : AllReadyZ P md ops Q S z fuel listed a w [z] := fun j hj => by
  rcases List.mem_cons.1 hj with rfl | hj
  · exact wpOp_step ho (fun K' hK => h K' (fun a w hW => hK a w ⟨fun e => absurd rfl e, hW⟩))
  · cases hj
theorem wpAnyZ_ready {rs : List Nat} {fuel : Nat} {listed : Array Bool} {a : Act} {w : World} (hr : Region.ready md ops listed = rs) (hne : rs ≠ [])
    (h : AllReadyZ P md ops Q S z fuel listed a w rs) : wpAnyZ P md ops Q S z (fuel + 1) listed a w :=
  ⟨fun h0 => absurd (hr ▸ h0) hne, hr ▸ h⟩
theorem wpAnyZ_done {listed : Array Bool} {a : Act} {w : World} (hr : Region.ready md ops listed = []) (h : Q .normal a w) : ∀ fuel, wpAnyZ P md ops Q S z fuel listed a w
  | 0 => ⟨hr, h⟩
  | _ + 1 => ⟨fun _ => h, fun i hi => by rw [hr] at hi; cases hi⟩
theorem wp_region_z {id : Nat} {a : Act} {w : World} (z n : Nat) (S : World → Prop) (hn : ops.size = n) (hm : P.follows .mixedOrders = true) (hS : S w.drew)
    (h : S w.drew → wpAnyZ P .any ops Q S z n (List.replicate n false).toArray a w.drew) : (Code.region id ops true).wp P Q a w := by
  subst hn
  exact wp_region_any hm (wpAny_of_z _ _ _ _ (by simpa using h hS))
end
section
variable {P : Program} {l : List Oper} {Q : Exit → Act → World → Prop} {md : Region.Mode} {S : World → Prop} {z : Nat}
theorem wpAnyZ_takeL {i : Nat} {oi : Oper} {v : Value} {fuel : Nat} {listed : List Bool} {a : Act} {w : World} (hi : l[i]? = some oi)
    (hk : (Region.noSelect l.toArray && Region.free md l.toArray listed.toArray i && (Region.ready md l.toArray listed.toArray).contains i && (!(i == z) && waitedZ md l.toArray z && shutB md l.toArray listed.toArray && (z + 1 == l.toArray.size))) = true)
    (hQ : ∀ c a w, Q (.panic c) (a.put oi.dst v) w → Q (.panic c) a w) (hy : YieldsIf P l.toArray S oi v a) (hS : S w)
    (h : wpAnyZ P md l.toArray Q S z fuel (listed.set i true).toArray (a.put oi.dst v) w) : wpAnyZ P md l.toArray Q S z (fuel + 1) listed.toArray a w := by
  rw [Bool.and_eq_true, Bool.and_eq_true, Bool.and_eq_true] at hk
  exact wpAnyZ_take (i := i) (by simpa using hi) hk.1.1.1 hk.1.1.2 hk.1.2 hk.2 hQ hy hS (by simpa using h)
theorem AllReadyZ.consL {fuel : Nat} {listed : List Bool} {a : Act} {w : World} {i : Nat} {o : Oper} {rs : List Nat} (ho : l[i]? = some o)
    (h : ∀ K' : Act → World → Prop, Shut (∀ a w, S w → (S w → wpAnyZ P md l.toArray Q S z fuel (listed.set i true).toArray a w) → K' a w) → if Region.wanted o (yielded l.toArray a.tmps) = true then Oper.wp P o a w K' Q else K' (a.put o.dst undef) w)
    (hs : AllReadyZ P md l.toArray Q S z fuel listed.toArray a w rs) : AllReadyZ P md l.toArray Q S z fuel listed.toArray a w (i :: rs) :=
  AllReadyZ.cons (by simpa using ho) (fun K' hK => h K' (fun a w hS hW => hK a w hS (fun hS => by simpa using hW hS))) hs
theorem AllReadyZ.lastL {fuel : Nat} {listed : List Bool} {a : Act} {w : World} {o : Oper} (ho : l[z]? = some o)
    (h : ∀ K' : Act → World → Prop, Shut (∀ a w, wpAnyZ P md l.toArray Q S z fuel (listed.set z true).toArray a w → K' a w) → if Region.wanted o (yielded l.toArray a.tmps) = true then Oper.wp P o a w K' Q else K' (a.put o.dst undef) w) : AllReadyZ P md l.toArray Q S z fuel listed.toArray a w [z] :=
  AllReadyZ.last (by simpa using ho) (fun K' hK => h K' (fun a w hW => hK a w (by simpa using hW)))
end

end Go.Proofs.Ytdmkpflphjemoaa

namespace Go.Proofs.Ytdmkpflphjemoaa
open Go.RowKit

set_option maxHeartbeats 6400000 in
set_option maxRecDepth 100000 in
theorem locks_any (cb : Nat) (ao : Option Addr) (n c a : Nat) (w : World) (ha : a ≤ 1000000000) (hcb : cb < w.heap.size) (h : CurIs w cb ao n c a) :
    Calls Try.prog 15 #[.pointer (some ⟨cb, 0, none⟩)] w fun e w' => ∃ v, e = .returned v ∧ KEnd w w' cb ao n c (a + 1000) v := by
  obtain ⟨p0, pi, pz0, pz1, pz2⟩ := info_parts Try.infoAsked
  obtain ⟨j0, ji, jz0, jz1, jz2⟩ := info_parts Try.infoLock
  have HL : Hid (∀ k, k < n → ∀ b off, ao = some ⟨b, off, none⟩ → b < w.heap.size) := h.code_lt
  go_enter Try.func15, Try.ntmps15
  go_wp2_with fail
  refine (pick_any cb ao n c a 20 _ (by omega) (by omega) (by omega) h).mono ?_
  rintro e w1 ⟨⟨r0, rfl, hr⟩, hc1, hk1⟩
  have HP0 : Hid (KSit w w1 cb ao n c (a + 2) 61 (.slice none 0 0) []) := ⟨hc1, hk1, LocksL.nil _ _, Nat.zero_le _, fun x hx => by cases hx⟩
  clear hc1 hk1 h
  go_wp2
  go_loopw [3, 4, 5, 6, 7, 8] (fun v3 v4 _ _ _ _ wr => ∃ (i : Nat) (ls : List LockW), v4 = .int .i64 (i : Int) ∧ i ≤ 19 ∧ Hid (KSit w wr cb ao n c (a + 2 + 10 * (20 - i)) 61 v3 ls)) (fun _ v4 _ _ _ _ _ => (intOf v4).toNat)
  case atStart => exact ⟨r0, [], rfl, by omega, HP0.out.more (by omega)⟩
  case round =>
    clear HP0 hr
    obtain ⟨i, ls, rfl, hi, HP⟩ := hrel
    obtain ⟨b3, d3, e3, _, _⟩ := HP.out.lie.form
    subst e3
    have hl61 := HP.out.few.1
    by_cases hi0 : 0 < i
    · have d1 : decide ((0 : Int) < (i : Int)) = true := decide_eq_true (by omega)
      have i0' : (0 : Int) < (i : Int) := by omega
      have hw1 : IntKind.i64.wrap ((i : Int) - 1) = ((i - 1 : Nat) : Int) := by rw [IntKind.wrap_i64]; omega
      go_wp2_with fail
      refine (pick_any cb ao n c (a + 2 + 10 * (20 - i)) 6 _ (by omega) (by omega) (by omega) HP.out.cur).mono ?_
      rintro e u1 ⟨⟨t, rfl, ht⟩, hcN, hkN⟩
      have HP1 : Hid (KSit w u1 cb ao n c (a + 2 + 10 * (20 - i) + 2) 61 (.slice b3 ls.length d3) ls) := HP.out.on hcb hcN hkN
      clear HP hcN hkN
      go_wp2_with fail
      refine (one_any cb ao n c (a + 2 + 10 * (20 - i) + 2) 8 _ (by omega) (by omega) (by omega) HP1.out.cur).mono ?_
      rintro e u2 ⟨⟨tb, rfl⟩, hcN, hkN⟩
      have HP2 : Hid (KSit w u2 cb ao n c (a + 2 + 10 * (20 - i) + 2 + 2) 61 (.slice b3 ls.length d3) ls) := HP1.out.on hcb hcN hkN
      clear HP1 hcN hkN
      cases tb with
      | true =>
        go_wp2_with fail
        have HSH : Hid (ShortTo ls.length (heldF ls) (queueF ls) 1048576) := fun j hj => by have := HP2.out.few.2.to j hj; omega
        obtain ⟨hs3, qs3, hsp3⟩ := HP2.out.lie
        obtain ⟨_, _, e3, hcd, _, _⟩ := own_form hsp3.row
        cases e3
        refine (specLeave_any b3 ls.length d3 (keyF ls) (heldF ls) (queueF ls) t _ (by omega) hcd HSH.out hsp3.at_).mono ?_
        rintro e u3 ⟨⟨b4, d4, v4, ls4, es, code, rfl, ⟨_, hsl⟩, hwi, hans⟩, hb⟩
        have hsh4 := leaveAns_short hans.out
        obtain ⟨b5, d5, rfl, _, _, _⟩ := own_form hwi
        have HP3 : Hid (KSit w u3 cb ao n c (a + 2 + 10 * (20 - i) + 2 + 2) 61 (.slice b4 ls4.length d4) ls4) := HP2.out.to hb hsl ⟨by omega, hsh4.2.1⟩
        clear HP2 HSH hsp3 hsl hwi hans hb hsh4
        go_wp2
        go_roundw
        case rel => exact ⟨i - 1, ls4, rfl, by omega, HP3.out.more (by omega)⟩
        case measure => simp [intOf]; omega
      | false =>
        go_wp2_with fail
        refine (pick_any cb ao n c (a + 2 + 10 * (20 - i) + 2 + 2) 7 _ (by omega) (by omega) (by omega) HP2.out.cur).mono ?_
        rintro e u3 ⟨⟨k, rfl, hk⟩, hcN, hkN⟩
        have HP3 : Hid (KSit w u3 cb ao n c (a + 2 + 10 * (20 - i) + 2 + 2 + 2) 61 (.slice b3 ls.length d3) ls) := HP2.out.on hcb hcN hkN
        clear HP2 hcN hkN
        go_wp2_with fail
        refine (one_any cb ao n c (a + 2 + 10 * (20 - i) + 2 + 2 + 2) 2 _ (by omega) (by omega) (by omega) HP3.out.cur).mono ?_
        rintro e u4 ⟨⟨sh, rfl⟩, hcN, hkN⟩
        have HP4 : Hid (KSit w u4 cb ao n c (a + 2 + 10 * (20 - i) + 2 + 2 + 2 + 2) 61 (.slice b3 ls.length d3) ls) := HP3.out.on hcb hcN hkN
        clear HP3 hcN hkN
        go_wp2_with fail
        have HSH : Hid (ShortTo ls.length (heldF ls) (queueF ls) 1048576) := fun j hj => by have := HP4.out.few.2.to j hj; omega
        obtain ⟨hs3, qs3, hsp3⟩ := HP4.out.lie
        obtain ⟨_, _, e3, hcd, _, _⟩ := own_form hsp3.row
        cases e3
        refine (specAsk_any b3 ls.length d3 (keyF ls) (heldF ls) (queueF ls) t k sh _ (by omega) hcd HSH.out hsp3.at_).mono ?_
        rintro e u5 ⟨⟨b4, d4, ls4, ok, code, rfl, ⟨_, hsl⟩, hans⟩, hb⟩
        have hsh4 := askAns_short hans.out
        have HP5 : Hid (KSit w u5 cb ao n c (a + 2 + 10 * (20 - i) + 2 + 2 + 2 + 2) 61 (.slice b4 ls4.length d4) ls4) := HP4.out.to hb hsl hsh4
        have HP6 : Hid (KSit w u5 cb ao n c (a + 2 + 10 * (20 - i) + 2 + 2 + 2 + 2) 61 (.slice b3 ls.length d3) ls) := HP4.out.below hb
        clear HP4 HSH hsp3 hsl hans hb hsh4
        by_cases hz : code = 0
        · subst hz
          go_wp2
          go_roundw
          case rel => exact ⟨i - 1, ls4, rfl, by omega, HP5.out.more (by omega)⟩
          case measure => simp [intOf]; omega
        · have dz : (code == 0) = false := by simpa using hz
          go_wp2
          go_roundw
          case rel => exact ⟨i - 1, ls, rfl, by omega, HP6.out.more (by omega)⟩
          case measure => simp [intOf]; omega
    · have d1 : decide ((0 : Int) < (i : Int)) = false := decide_eq_false (by omega)
      have i0' : ¬ (0 : Int) < (i : Int) := by omega
      have HPm : Hid (KSit w wr cb ao n c (a + 500) 61 (.slice b3 ls.length d3) ls) := HP.out.more (by omega)
      clear HP
      go_wp2_with fail
      refine (pick_any cb ao n c (a + 500) 30 _ (by omega) (by omega) (by omega) HPm.out.cur).mono ?_
      rintro e u1 ⟨⟨r, rfl, hr⟩, hcN, hkN⟩
      have HQ : Hid (KSit w u1 cb ao n c (a + 500 + 2) 61 (.slice b3 ls.length d3) ls) := HPm.out.on hcb hcN hkN
      clear HPm hcN hkN
      by_cases e0 : r = 0
      · subst e0
        have HPA : Hid (KSit w (u1.alloc (.cells #[.int .i64 0, .int .i64 50, .int .i64 100000, .int .i64 100001] 3)) cb ao n c (a + 500 + 2) 61 (.slice b3 ls.length d3) ls) := HQ.out.below (push (Below.refl _ _) _)
        have HBL := heap_alloc_new u1 (.cells #[.int .i64 0, .int .i64 50, .int .i64 100000, .int .i64 100001] 3)
        have hyl : cb < u1.heap.size := HQ.out.cur.lt
        go_wp2_with fail
        generalize u1.alloc (.cells #[.int .i64 0, .int .i64 50, .int .i64 100000, .int .i64 100001] 3) = u2 at HPA HBL ⊢
        generalize u1.heap.size = bl at HBL hyl ⊢
        refine (amongL cb ao n c (a + 500 + 2) 4 [0, 50, 100000, 100001] u2 rfl (by omega) (by omega) (by omega) HPA.out.cur bl HBL (by omega)).mono ?_
        rintro e u3 ⟨⟨q, rfl⟩, hcN, hkN⟩
        have HP3 : Hid (KSit w u3 cb ao n c (a + 500 + 2 + 2) 61 (.slice b3 ls.length d3) ls) := HPA.out.on hcb hcN hkN
        clear HPA HQ hcN hkN HBL hyl
        go_wp2_with fail
        refine (pick_any cb ao n c (a + 500 + 2 + 2) 14 _ (by omega) (by omega) (by omega) HP3.out.cur).mono ?_
        rintro e u4 ⟨⟨t, rfl, ht⟩, hcN, hkN⟩
        have HP4 : Hid (KSit w u4 cb ao n c (a + 500 + 2 + 2 + 2) 61 (.slice b3 ls.length d3) ls) := HP3.out.on hcb hcN hkN
        clear HP3 hcN hkN
        go_wp2_with fail
        refine (one_any cb ao n c (a + 500 + 2 + 2 + 2) 2 _ (by omega) (by omega) (by omega) HP4.out.cur).mono ?_
        rintro e u5 ⟨⟨sh, rfl⟩, hcN, hkN⟩
        have HP5 : Hid (KSit w u5 cb ao n c (a + 500 + 2 + 2 + 2 + 2) 61 (.slice b3 ls.length d3) ls) := HP4.out.on hcb hcN hkN
        clear HP4 hcN hkN
        obtain ⟨hs5, qs5, hL5⟩ := HP5.out.lie
        have HL5 : Hid (LocksOwn u5 w.heap.size ls.length (.slice b3 ls.length d3) (keyF ls) (heldF ls) (queueF ls) hs5 qs5) := hL5
        have HTN : Hid _ := two_new (u := u5) (x := (t : Int)) (key := q) (s := sh)
        have HLY : Hid (LocksOwn ((u5.alloc (.cells #[.int .i64 (t : Int), .bool sh] 57)).alloc (.cells #[.int .i64 q, .slice (some ⟨u5.heap.size, 0, none⟩) 1 1, .slice none 0 0] 60)) w.heap.size ls.length (.slice b3 ls.length d3) (keyF ls) (heldF ls) (queueF ls) hs5 qs5) := hL5.below HTN.out.1
        have HYS : Hid (w.heap.size ≤ ((u5.alloc (.cells #[.int .i64 (t : Int), .bool sh] 57)).alloc (.cells #[.int .i64 q, .slice (some ⟨u5.heap.size, 0, none⟩) 1 1, .slice none 0 0] 60)).heap.size) := by have h1 := HTN.out.2.2.1; have h2 := HP5.out.kept.size; show w.heap.size ≤ _; omega
        clear hL5
        go_wp2_with (first | (at_builtin; refine wpList_append_lies _ (by rfl) (.tmp 45) (.tmp 56) 23 (by rfl) w.heap.size 60 j0 (.agg #[.int .i64 0, .slice none 0 0, .slice none 0 0]) 3 56 Try.underlying23 ji jz0 jz1 jz2 rfl (by decide) (.slice b3 ls.length d3) ls.length _ (by rfl) HLY.out.row ⟨u5.heap.size + 1, 0, none⟩ 1 1 [.int .i64 q, .slice (some ⟨u5.heap.size, 0, none⟩) 1 1, .slice none 0 0] (by rfl) (by rfl) HTN.out.2.2.2 (by intro u hu; simp at hu; rcases hu with rfl | rfl | rfl <;> rfl) (by decide) (by unfold maxLen; omega) (by omega) HYS.out (u5.heap.size + 2) HTN.out.2.2.1 ?_; intro g7 cap7 w7 ho7 hg7 hat7 hlt7))
        have HZ : Hid _ := HP5.out.snoc hcb HL.out HL5.out HTN.out.1 HTN.out.2.1 hg7 ho7
        exact bodyPost_ret (v := .slice (some ⟨g7, 0, none⟩) (ls.length + 1) cap7) (by simp [results, Try.results15, go_sem]) rfl ⟨_, rfl, HZ.out.fin hcb (by omega) (by omega)⟩
      · have dd0 : ((r : Int) == 0) = false := by simpa using (show ¬ (r : Int) = 0 by omega)
        by_cases e1 : r = 1
        · subst e1
          by_cases hl0 : 0 < ls.length
          · have i1' : (0 : Int) < (ls.length : Int) := by omega
            obtain ⟨hs5, qs5, hL5⟩ := HQ.out.lie
            obtain ⟨g, rfl, hgw, _⟩ := own_addr hL5.row hl0
            obtain ⟨aq, cq, hQ, hq1, hq2, hq3⟩ := own_form (hL5.queue 0 hl0)
            have hq24 : (queueF ls 0).n ≤ 24 := (HQ.out.few.2.to 0 hl0).2
            have HQV : Hid (qs5 0 = (.slice aq (queueF ls 0).n cq)) := hQ
            have HY2 : Hid (∀ z : World, z.ownsRow w.heap.size 60 3 (.slice (some ⟨g, 0, none⟩) ls.length d3) ls.length ((List.range (ls.length * 3)).map (lockCell (keyF ls) hs5 qs5)) → z.cell? ⟨g, 2, none⟩ = some (.slice aq (queueF ls 0).n cq)) := fun z L => by
              have h := own_cell L (0 * 3 + 2) (by omega) rfl
              rw [lockCell_2, hQ] at h
              exact h
            go_upto_region 16 with fail
            have HK0 : Hid (KSit w u1.drew cb ao n c (a + 500 + 2) 61 (.slice (some ⟨g, 0, none⟩) ls.length d3) ls) := HQ.out.below (Below.refl _ _).drew
            have HO0 : Hid (LocksOwn u1.drew w.heap.size ls.length (.slice (some ⟨g, 0, none⟩) ls.length d3) (keyF ls) (heldF ls) (queueF ls) hs5 qs5) := hL5.below (Below.refl _ _).drew
            refine wp_region_z 14 15 (fun w' => w'.cell? ⟨g, 2, none⟩ = some (.slice aq (queueF ls 0).n cq) ∧ True) rfl (by kernel_rfl) ⟨HY2.out _ HO0.out.row, trivial⟩ (fun hS => ?_)
            clear HQ hL5 hQ hq1 hq2 hq3
            simp only [List.replicate_succ, List.replicate_zero]
            generalize u1.drew = y0 at HK0 HO0 hS ⊢
            (refine wpAnyZ_takeL (i := 0) (v := ?_) rfl (by kernel_rfl) (fun _ _ _ h => h) (Or.inl ⟨by rfl, ?_⟩) (by assumption) ?_; rotate_left; (focus (intro w' hSw; (try dsimp only at hSw); go_simp; try with_reducible rfl)); simp only [Act.put, List.setIfInBounds_toArray, List.set_cons_zero, List.set_cons_succ])
            (refine wpAnyZ_takeL (i := 1) (v := ?_) rfl (by kernel_rfl) (fun _ _ _ h => h) (Or.inl ⟨by rfl, ?_⟩) (by assumption) ?_; rotate_left; (focus (intro w' hSw; (try dsimp only at hSw); go_simp; try with_reducible rfl)); simp only [Act.put, List.setIfInBounds_toArray, List.set_cons_zero, List.set_cons_succ])
            (refine wpAnyZ_takeL (i := 2) (v := ?_) rfl (by kernel_rfl) (fun _ _ _ h => h) (Or.inl ⟨by rfl, ?_⟩) (by assumption) ?_; rotate_left; (focus (intro w' hSw; (try dsimp only at hSw); go_simp; try with_reducible rfl)); simp only [Act.put, List.setIfInBounds_toArray, List.set_cons_zero, List.set_cons_succ])
            (refine wpAnyZ_takeL (i := 3) (v := ?_) rfl (by kernel_rfl) (fun _ _ _ h => h) (Or.inl ⟨by rfl, ?_⟩) (by assumption) ?_; rotate_left; (focus (intro w' hSw; (try dsimp only at hSw); go_simp; try with_reducible rfl)); simp only [Act.put, List.setIfInBounds_toArray, List.set_cons_zero, List.set_cons_succ])
            (refine wpAnyZ_takeL (i := 4) (v := ?_) rfl (by kernel_rfl) (fun _ _ _ h => h) (Or.inl ⟨by rfl, ?_⟩) (by assumption) ?_; rotate_left; (focus (intro w' hSw; (try dsimp only at hSw); go_simp; try with_reducible rfl)); simp only [Act.put, List.setIfInBounds_toArray, List.set_cons_zero, List.set_cons_succ])
            (refine wpAnyZ_takeL (i := 5) (v := ?_) rfl (by kernel_rfl) (fun _ _ _ h => h) (Or.inl ⟨by rfl, ?_⟩) (by assumption) ?_; rotate_left; (focus (intro w' hSw; (try dsimp only at hSw); go_simp; try with_reducible rfl)); simp only [Act.put, List.setIfInBounds_toArray, List.set_cons_zero, List.set_cons_succ])
            (refine wpAnyZ_takeL (i := 7) (v := ?_) rfl (by kernel_rfl) (fun _ _ _ h => h) (Or.inl ⟨by rfl, ?_⟩) (by assumption) ?_; rotate_left; (focus (intro w' hSw; (try dsimp only at hSw); go_simp; try with_reducible rfl)); simp only [Act.put, List.setIfInBounds_toArray, List.set_cons_zero, List.set_cons_succ])
            refine wpAnyZ_ready (rs := [6]) (by kernel_rfl) (by simp) ?_
            refine AllReadyZ.consL rfl (fun K hK => ?_) AllReadyZ.nil
            go_simp
            go_at_call 16
            refine Calls.mono (pick_any cb ao n c (a + 500 + 2) 13 y0 (by omega) (by omega) (by omega) HK0.out.cur) ?_
            rintro e y1 ⟨⟨t, rfl, ht⟩, hcN, hkN⟩
            dsimp only
            have HK1 : Hid (KSit w y1 cb ao n c (a + 500 + 2 + 2) 61 (.slice (some ⟨g, 0, none⟩) ls.length d3) ls) := HK0.out.on hcb hcN hkN
            have HO1 : Hid (LocksOwn y1 w.heap.size ls.length (.slice (some ⟨g, 0, none⟩) ls.length d3) (keyF ls) (heldF ls) (queueF ls) hs5 qs5) := HO0.out.kept hkN (fun b e1 e2 => by have := (HO0.out.lim b e1).1; have e2 : b = cb := e2; omega)
            refine hK.out _ _ ⟨HY2.out _ HO1.out.row, trivial⟩ (fun hS => ?_)
            clear hK K HK0 HO0 hcN hkN
            simp only [List.set_cons_zero, List.set_cons_succ]
            refine wpAnyZ_ready (rs := [8]) (by kernel_rfl) (by simp) ?_
            refine AllReadyZ.consL rfl (fun K hK => ?_) AllReadyZ.nil
            go_simp
            go_at_call 17
            refine Calls.mono (one_any cb ao n c (a + 500 + 2 + 2) 2 y1 (by omega) (by omega) (by omega) HK1.out.cur) ?_
            rintro e y2 ⟨⟨sh, rfl⟩, hcN, hkN⟩
            dsimp only
            have HK2 : Hid (KSit w y2 cb ao n c (a + 500 + 2 + 2 + 2) 61 (.slice (some ⟨g, 0, none⟩) ls.length d3) ls) := HK1.out.on hcb hcN hkN
            have HO2 : Hid (LocksOwn y2 w.heap.size ls.length (.slice (some ⟨g, 0, none⟩) ls.length d3) (keyF ls) (heldF ls) (queueF ls) hs5 qs5) := HO1.out.kept hkN (fun b e1 e2 => by have := (HO1.out.lim b e1).1; have e2 : b = cb := e2; omega)
            refine hK.out _ _ ⟨HY2.out _ HO2.out.row, trivial⟩ (fun hS => ?_)
            clear hK K HK1 HO1 hcN hkN
            simp only [List.set_cons_zero, List.set_cons_succ]
            (refine wpAnyZ_takeL (i := 9) (v := ?_) rfl (by kernel_rfl) (fun _ _ _ h => h) (Or.inl ⟨by rfl, ?_⟩) (by assumption) ?_; rotate_left; (focus (intro w' hSw; (try dsimp only at hSw); go_simp; try with_reducible rfl)); simp only [Act.put, List.setIfInBounds_toArray, List.set_cons_zero, List.set_cons_succ])
            refine wpAnyZ_ready (rs := [10]) (by kernel_rfl) (by simp) ?_
            refine AllReadyZ.consL rfl (fun K hK => ?_) AllReadyZ.nil
            go_simp
            have HK3 : Hid (KSit w (y2.alloc (.cells #[.int .i64 (t : Int), .bool sh] 57)) cb ao n c (a + 500 + 2 + 2 + 2) 61 (.slice (some ⟨g, 0, none⟩) ls.length d3) ls) := HK2.out.below (push (Below.refl _ _) _)
            have HO3 : Hid (LocksOwn (y2.alloc (.cells #[.int .i64 (t : Int), .bool sh] 57)) w.heap.size ls.length (.slice (some ⟨g, 0, none⟩) ls.length d3) (keyF ls) (heldF ls) (queueF ls) hs5 qs5) := HO2.out.below (push (Below.refl _ _) _)
            have HNW : Hid (∀ j u, [Value.int .i64 (t : Int), .bool sh][j]? = some u → (y2.alloc (.cells #[.int .i64 (t : Int), .bool sh] 57)).cell? ((⟨y2.heap.size, 0, none⟩ : Addr).add j) = some u) := World.news_of_block (cs := #[.int .i64 (t : Int), .bool sh]) (t := 57) (fr := (0, 0)) (heap_alloc_new y2 _)
            refine hK.out _ _ ⟨HY2.out _ HO3.out.row, trivial⟩ (fun hS => ?_)
            clear hK K HK2 HO2
            simp only [List.set_cons_zero, List.set_cons_succ]
            generalize y2.alloc (.cells #[.int .i64 (t : Int), .bool sh] 57) = y3 at HK3 HO3 HNW hS ⊢
            have HQO : Hid (y3.ownsRow w.heap.size 57 2 (.slice aq (queueF ls 0).n cq) (queueF ls 0).n (askList (queueF ls 0))) := HQV.out ▸ HO3.out.queue 0 hl0
            refine wpAnyZ_ready (rs := [11]) (by kernel_rfl) (by simp) ?_
            refine AllReadyZ.consL rfl (fun K hK => ?_) AllReadyZ.nil
            refine step_append_lies _ (by rfl) (.tmp 67) (.tmp 73) 58 (by rfl) w.heap.size 57 p0 (.agg #[.int .i64 0, .bool false]) 2 16 Try.underlying58 pi pz0 pz1 pz2 rfl (by decide) _ (queueF ls 0).n (askList (queueF ls 0)) (by rfl) HQO.out ⟨y2.heap.size, 0, none⟩ 1 1 [.int .i64 (t : Int), .bool sh] (by rfl) (by rfl) HNW.out (by intro u hu; simp at hu; rcases hu with rfl | rfl <;> rfl) (by decide) (by unfold maxLen; omega) (by omega) HK3.out.kept.size y3.heap.size rfl ?_
            intro g2 cap2 y4 ho4 hg4 hat4 hlt4
            have HR4 : Hid (y4.ownsRow w.heap.size 60 3 (.slice (some ⟨g, 0, none⟩) ls.length d3) ls.length ((List.range (ls.length * 3)).map (lockCell (keyF ls) hs5 qs5))) := (kept_by hg4).own HO3.out.row (fun b e1 e2 => own_apart HO3.out.row HQO.out (by decide) b e1 e2)
            have HE : Hid _ := HK3.out.waits (u7 := y4) (v2 := .slice (some ⟨g2, 0, none⟩) ((queueF ls 0).n + 1) cap2) (x := (t : Int)) (s := sh) hcb HL.out hl0 (by omega) HO3.out (HQV.out ▸ kept_by hg4) (by
              unfold AsksIs
              rw [cellsA_append, List.length_append, ← askList_lineOf]
              exact ho4) (fun b e => by
              rw [HQV.out]
              simp only [Value.ownBlock, Option.some.injEq] at e
              subst e
              rcases hat4 with h | h
              · exact .inl h
              · exact .inr (by omega))
            refine hK.out _ _ ⟨HY2.out _ HR4.out, trivial⟩ (fun hS => ?_)
            clear hK K HK3 HO3 HNW HQO ho4 hg4 hat4 hlt4
            simp only [Act.put, List.setIfInBounds_toArray, List.set_cons_zero, List.set_cons_succ]
            (refine wpAnyZ_takeL (i := 12) (v := ?_) rfl (by kernel_rfl) (fun _ _ _ h => h) (Or.inl ⟨by rfl, ?_⟩) (by assumption) ?_; rotate_left; (focus (intro w' hSw; (try dsimp only at hSw); go_simp; try with_reducible rfl)); simp only [Act.put, List.setIfInBounds_toArray, List.set_cons_zero, List.set_cons_succ])
            (refine wpAnyZ_takeL (i := 13) (v := ?_) rfl (by kernel_rfl) (fun _ _ _ h => h) (Or.inl ⟨by rfl, ?_⟩) (by assumption) ?_; rotate_left; (focus (intro w' hSw; (try dsimp only at hSw); go_simp; try with_reducible rfl)); simp only [Act.put, List.setIfInBounds_toArray, List.set_cons_zero, List.set_cons_succ])
            have z2 := HY2.out _ HR4.out
            have zf2 := own_row_free HR4.out 2
            refine wpAnyZ_ready (rs := [14]) (by kernel_rfl) (by simp) ?_
            refine AllReadyZ.lastL rfl (fun K hK => ?_)
            go_simp
            refine hK.out _ _ ?_
            clear hK K
            refine wpAnyZ_done (by kernel_rfl) ?_ _
            go_wp2
            exact bodyPost_ret (v := .slice (some ⟨g, 0, none⟩) ls.length d3) (by simp [results, Try.results15, go_sem]) rfl ⟨_, rfl, HE.out.more (by omega)⟩
          · have i1' : ¬ (0 : Int) < (ls.length : Int) := by omega
            go_wp2
            exact bodyPost_ret (v := .slice b3 ls.length d3) (by simp [results, Try.results15, go_sem]) rfl ⟨_, rfl, HQ.out.fin hcb (by omega) (by omega)⟩
        · have dd1 : ((r : Int) == 1) = false := by simpa using (show ¬ (r : Int) = 1 by omega)
          by_cases e2 : r = 2
          · subst e2
            by_cases hl0 : 0 < ls.length
            · have i1' : (0 : Int) < (ls.length : Int) := by omega
              obtain ⟨hs5, qs5, hL5⟩ := HQ.out.lie
              obtain ⟨g, rfl, _, _⟩ := own_addr hL5.row hl0
              have y1 := own_cell hL5.row 1 (by omega) rfl
              have f1 := own_row_free hL5.row 1
              have HE : Hid _ := HQ.out.unheld hcb HL.out hl0 (by omega)
              clear hL5
              go_wp2
              exact bodyPost_ret (v := .slice (some ⟨g, 0, none⟩) ls.length d3) (by simp [results, Try.results15, go_sem]) rfl ⟨_, rfl, HE.out.more (by omega)⟩
            · have i1' : ¬ (0 : Int) < (ls.length : Int) := by omega
              go_wp2
              exact bodyPost_ret (v := .slice b3 ls.length d3) (by simp [results, Try.results15, go_sem]) rfl ⟨_, rfl, HQ.out.fin hcb (by omega) (by omega)⟩
          · have dd2 : ((r : Int) == 2) = false := by simpa using (show ¬ (r : Int) = 2 by omega)
            by_cases e3 : r = 3
            · subst e3
              have HPk : Hid (KSit w u1 cb ao n c (a + 500 + 2) (61 + 0) (.slice b3 ls.length d3) ls) := HQ.out
              clear HQ
              go_wp2
              go_loopw [3, 9] (fun v3 v9 wr => ∃ (k : Nat) (ls : List LockW), v9 = .int .i64 (k : Int) ∧ k ≤ 60 ∧ Hid (KSit w wr cb ao n c (a + 500 + 2) (61 + k) v3 ls)) (fun _ v9 _ => 60 - (intOf v9).toNat)
              case atStart => exact ⟨0, ls, rfl, by omega, HPk⟩
              case round =>
                obtain ⟨wo, hwo⟩ : ∃ wo, wo = wr := ⟨_, rfl⟩
                subst hwo
                clear HPk
                clear hl61
                obtain ⟨k, ls, rfl, hk, HK⟩ := hrel
                obtain ⟨b3, d3, e3, _, _⟩ := HK.out.lie.form
                subst e3
                have hl121 := HK.out.few.1
                by_cases hk0 : k < 60
                · have dk : decide ((k : Int) < 60) = true := decide_eq_true (by omega)
                  have dk' : (k : Int) < 60 := by omega
                  have hw2 : IntKind.i64.wrap (100 + (k : Int)) = 100 + (k : Int) := by rw [IntKind.wrap_i64]; omega
                  have hw3 : IntKind.i64.wrap ((k : Int) + 1) = ((k + 1 : Nat) : Int) := by rw [IntKind.wrap_i64]; omega
                  obtain ⟨hs5, qs5, hL5⟩ := HK.out.lie
                  have HL5 : Hid (LocksOwn wo w.heap.size ls.length (.slice b3 ls.length d3) (keyF ls) (heldF ls) (queueF ls) hs5 qs5) := hL5
                  have HTN : Hid _ := two_new (u := wo) (x := 11) (key := (100 + (k : Int))) (s := false)
                  have HLY : Hid (LocksOwn ((wo.alloc (.cells #[.int .i64 11, .bool false] 57)).alloc (.cells #[.int .i64 (100 + (k : Int)), .slice (some ⟨wo.heap.size, 0, none⟩) 1 1, .slice none 0 0] 60)) w.heap.size ls.length (.slice b3 ls.length d3) (keyF ls) (heldF ls) (queueF ls) hs5 qs5) := hL5.below HTN.out.1
                  have HYS : Hid (w.heap.size ≤ ((wo.alloc (.cells #[.int .i64 11, .bool false] 57)).alloc (.cells #[.int .i64 (100 + (k : Int)), .slice (some ⟨wo.heap.size, 0, none⟩) 1 1, .slice none 0 0] 60)).heap.size) := by have h1 := HTN.out.2.2.1; have h2 := HK.out.kept.size; show w.heap.size ≤ _; omega
                  clear hL5
                  go_wp2_with (first | (at_builtin; refine wpList_append_lies _ (by rfl) (.tmp 91) (.tmp 97) 23 (by rfl) w.heap.size 60 j0 (.agg #[.int .i64 0, .slice none 0 0, .slice none 0 0]) 3 56 Try.underlying23 ji jz0 jz1 jz2 rfl (by decide) (.slice b3 ls.length d3) ls.length _ (by rfl) HLY.out.row ⟨wo.heap.size + 1, 0, none⟩ 1 1 [.int .i64 (100 + (k : Int)), .slice (some ⟨wo.heap.size, 0, none⟩) 1 1, .slice none 0 0] (by rfl) (by rfl) HTN.out.2.2.2 (by intro u hu; simp at hu; rcases hu with rfl | rfl | rfl <;> rfl) (by decide) (by unfold maxLen; omega) (by omega) HYS.out (wo.heap.size + 2) HTN.out.2.2.1 ?_; intro g7 cap7 w7 ho7 hg7 hat7 hlt7))
                  have HZ : Hid _ := HK.out.snoc hcb HL.out HL5.out HTN.out.1 HTN.out.2.1 hg7 ho7
                  go_roundw
                  case rel => exact ⟨k + 1, _, rfl, by omega, HZ⟩
                  case measure => simp [intOf]; omega
                · obtain rfl : k = 60 := by omega
                  have dk : decide (((60 : Nat) : Int) < 60) = false := rfl
                  by_cases hgt : 60 < ls.length
                  · have dg : decide ((60 : Int) < (ls.length : Int)) = true := decide_eq_true (by omega)
                    have dg' : (60 : Int) < (ls.length : Int) := by omega
                    go_wp2_with fail
                    refine (one_any cb ao n c (a + 500 + 2) 3 _ (by omega) (by omega) (by omega) HK.out.cur).mono ?_
                    rintro e u5 ⟨⟨tb, rfl⟩, hcN, hkN⟩
                    have HK2 : Hid _ := HK.out.on hcb hcN hkN
                    clear HK hcN hkN
                    cases tb with
                    | true =>
                      go_wp2
                      exact bodyPost_ret (v := .slice b3 ls.length d3) (by simp [results, Try.results15, go_sem]) rfl ⟨_, rfl, HK2.out.fin hcb (by omega) (by omega)⟩
                    | false =>
                      obtain ⟨hs5, qs5, hL5⟩ := HK2.out.lie
                      obtain ⟨g, rfl, _, _⟩ := own_addr hL5.row (by omega)
                      obtain ⟨_, _, e5, hcd, hcd2, _⟩ := own_form hL5.row
                      cases e5
                      clear hL5
                      have hw6 : IntKind.i64.wrap ((ls.length : Int) - 60) = ((ls.length - 60 : Nat) : Int) := by rw [IntKind.wrap_i64]; omega
                      have HE : Hid _ := HK2.out.last hcb (ls.length - 60) (by omega) (by omega)
                      have g1 : ((ls.length - 60 : Nat) : Int) ≤ (ls.length : Int) := by omega
                      have g2 : (ls.length : Int) ≤ (d3 : Int) := by omega
                      have g3 : ((ls.length - 60 : Nat) : Int).toNat = ls.length - 60 := by omega
                      have g4 : (0 : Int) ≤ ((ls.length - 60 : Nat) : Int) := by omega
                      have g5 : (d3 = ls.length - 60) = False := by simp; unfold maxLen at hcd2; omega
                      generalize hp : ls.length - 60 = p at *
                      go_wp2
                      have h9 := HE.out
                      rw [Nat.zero_add] at h9
                      exact bodyPost_ret (v := .slice (some ⟨g, p * 3, none⟩) (ls.length - p) (d3 - p)) (by simp [results, Try.results15, go_sem]) rfl ⟨_, rfl, h9.more (by omega)⟩
                  · have dg : decide ((60 : Int) < (ls.length : Int)) = false := decide_eq_false (by omega)
                    have dg' : ¬ (60 : Int) < (ls.length : Int) := by omega
                    go_wp2
                    exact bodyPost_ret (v := .slice b3 ls.length d3) (by simp [results, Try.results15, go_sem]) rfl ⟨_, rfl, HK.out.fin hcb (by omega) (by omega)⟩
            · have dd3 : ((r : Int) == 3) = false := by simpa using (show ¬ (r : Int) = 3 by omega)
              go_wp2
              exact bodyPost_ret (v := .slice b3 ls.length d3) (by simp [results, Try.results15, go_sem]) rfl ⟨_, rfl, HQ.out.fin hcb (by omega) (by omega)⟩

end Go.Proofs.Ytdmkpflphjemoaa

/-
  OWN TEXT: SpecLg, PlainBm, ReadI.
-/
import Derived.Test.YtfbooamjddnagaaDoorXadOp05
import Derived.Test.YtfbooamjddnagaaDoorXadOp04
namespace Go.Proofs.YtfbooamjddnagaaDoor
open Go.RowKit

/-- The numbers that the specification reads. -/
def LegsTold (s : ByteArray) (L : List Int) : Prop := L.length ≤ s.size + 1 ∧ ∃ l, Parts 44 s l ∧ L = l.map numOf
theorem told_back {n : Nat} {f : Nat → Int} {L : List Int} (hn : 0 < n) (h : ∀ i, i < n → In (f i) 0 99999) (hr : LegsTold (legsT n f) L) : L.length = n ∧ ∀ i, i < n → getI L i = f i :=
  legs_back hn h ⟨hr.1, .inr ⟨legs_not hn h, hr.2⟩⟩

set_option maxHeartbeats 1600000 in
set_option maxRecDepth 100000 in
theorem l11ReadLegs_any (s : ByteArray) (w : World) (hs : s.size ≤ 1048576) :
    Calls Tryd.prog 42 #[.string s] w fun e w' => ∃ v L, e = .returned v ∧ w'.ownsRow w.heap.size 3 1 v L.length (cellsI L) ∧ Hid (LegsTold s L) ∧ Below w.heap.size w w' := by
  obtain ⟨j0, ji, jz0, jz1, jz2⟩ := info_parts Tryd.infoInt
  go_enter Tryd.func42, Tryd.ntmps42
  go_wp2_with fail
  refine (l11Split_any s 44 _ hs).mono ?_
  rintro e w2 ⟨v, l, rfl, ho, hp, hb2⟩
  obtain ⟨pa, pc, rfl, hpc, hpm, hpn⟩ := own_form ho
  have HO : Hid (OwnT w2 w.heap.size (.slice pa l.length pc) l) := ho
  have HPT : Hid (Parts 44 s l ∧ l.length ≤ s.size + 1) := hp.out
  have hll : l.length ≤ 1048577 := by have := hp.out.2; omega
  clear ho hp
  go_wp2
  go_loopw [3, 5, 9] (fun v _ i wr => ∃ k : Nat, k ≤ l.length ∧ i = .int .i64 k ∧ Hid (wr.ownsRow w.heap.size 3 1 v k (cellsI ((l.take k).map numOf))) ∧ Hid (OwnT wr w.heap.size (.slice pa l.length pc) l) ∧ Below w.heap.size w wr)
    (fun _ _ i _ => l.length - (intOf i).toNat)
  case atStart => exact ⟨0, Nat.zero_le _, rfl, World.ownsRow_nil _ _ _ _, HO.out, hb2⟩
  case round =>
    clear HO
    obtain ⟨k, hk, rfl, HN, HO, hbel⟩ := hrel
    by_cases hlt : k < l.length
    · obtain ⟨g, hpa, _, hg⟩ := own_addr HO.out (by omega)
      subst hpa
      have hx : l[k]? = some (l[k]'hlt) := List.getElem?_eq_getElem hlt
      have hc : wr.cell? ⟨g, k, none⟩ = some (.string (l[k]'hlt)) := by rw [World.ownsRow.cellAt HO.out k (by omega), List.getElem?_map, hx]; rfl
      have hL : (l.take (k + 1)).map numOf = (l.take k).map numOf ++ [numOf (l[k]'hlt)] := by rw [List.take_add_one, hx, List.map_append]; rfl
      have HL : Hid ((l.take (k + 1)).map numOf = (l.take k).map numOf ++ [numOf (l[k]'hlt)]) := hL
      have hkl : ((l.take k).map numOf).length = k := by rw [List.length_map, List.length_take]; omega
      generalize l[k]'hlt = x at hc HL
      obtain ⟨va, vc, rfl, _⟩ := own_form HN.out
      clear hx hL
      go_wp2_with fail
      refine (l11Number_any x _).mono ?_
      rintro e w3 ⟨rfl, hw3⟩
      have hw3 := hw3.symm
      subst hw3
      have HN3 : Hid (World.ownsRow (wr.alloc (.cells #[.int .i64 (numOf x)] 3)) w.heap.size 3 1 (.slice va k vc) k (cellsI ((l.take k).map numOf))) := own_below (push (Below.refl _ _) _) HN.out
      have HO3 : Hid (OwnT (wr.alloc (.cells #[.int .i64 (numOf x)] 3)) w.heap.size (.slice (some ⟨g, 0, none⟩) l.length pc) l) := own_below (push (Below.refl _ _) _) HO.out
      have hb4 : Below w.heap.size w (wr.alloc (.cells #[.int .i64 (numOf x)] 3)) := push hbel _
      have hsz := hb4.size
      clear HN HO hbel hc
      go_wp2_with (first | (at_builtin; refine wpList_append_any _ (by rfl) (.tmp 13) (.tmp 16) 22 (by rfl) w.heap.size 3 j0 (.int .i64 0) 1 8 Tryd.underlying22 ji jz0 jz1 jz2 rfl (by decide) _ k (cellsI ((l.take k).map numOf)) (by rfl) HN3.out (some ⟨wr.heap.size, 0, none⟩) 1 1 [.int .i64 (numOf x)] (by rfl) (fun h => by cases h) (by rfl) (fun ad h => by cases h; exact World.news_of_block (heap_alloc_new wr _)) (by intro u hu; simp only [List.mem_cons, List.not_mem_nil, or_false] at hu; subst hu; rfl) (by unfold maxLen; omega) (by omega) hsz ?_; intro v9 w9 ho9 hg9))
      have HN9 : Hid (World.ownsRow w9 w.heap.size 3 1 v9 (k + 1) (cellsI ((l.take (k + 1)).map numOf))) := by
        rw [HL.out, cellsI_snoc]
        exact ho9
      have HO9 : Hid (OwnT w9 w.heap.size (.slice (some ⟨g, 0, none⟩) l.length pc) l) := (kept_row hg9).own HO3.out (fun g1 h1 e1 => own_apart HO3.out HN3.out (by decide) g1 h1 e1)
      have hb9 := hb4.grown hg9 hsz (fun j hj => (World.ownsRow.lt HN3.out j hj).1)
      clear HN3 HO3 hb4 ho9 hg9 hsz
      go_roundw
      case rel => exact ⟨k + 1, by omega, by go_num, HN9.out, HO9.out, hb9⟩
      case measure => simp [intOf]; omega
    · obtain rfl : k = l.length := by omega
      have HF : Hid (LegsTold s (l.map numOf)) := ⟨by rw [List.length_map]; exact HPT.out.2, l, HPT.out.1, rfl⟩
      have hN := HN.out
      rw [List.take_of_length_le (Nat.le_refl _)] at hN
      have hl2 : (l.map numOf).length = l.length := by simp
      have HN2 : Hid (wr.ownsRow w.heap.size 3 1 u3 (l.map numOf).length (cellsI (l.map numOf))) := by rw [hl2]; exact hN
      clear HN hN hl2
      go_wp2
      go_ret
      exact ⟨_, _, rfl, HN2.out, HF, hbel⟩

end Go.Proofs.YtfbooamjddnagaaDoor

namespace Go.Proofs.YtfbooamjddnagaaDoor
open Go.RowKit

theorem free_word : ∀ k, k < 10 → Free 32 (wordT k) := by
  intro k hk
  unfold Free
  have hc : k = 0 ∨ k = 1 ∨ k = 2 ∨ k = 3 ∨ k = 4 ∨ k = 5 ∨ k = 6 ∨ k = 7 ∨ k = 8 ∨ k = 9 := by omega
  rcases hc with rfl | rfl | rfl | rfl | rfl | rfl | rfl | rfl | rfl | rfl <;> decide
theorem free_party {q : UInt8} (h0 : ¬ Digit q) (h1 : q ≠ 43) (h2 : q ≠ 47) (h3 : q ≠ 64) (h4 : q ≠ 120) {p : Party} (hp : PartyOk p) : Free q (partyT p) := by
  unfold PartyOk CarOk CabOk In at hp
  have a0 := free_num h0 (m := p.pe) (by omega)
  have a1 := free_num h0 (m := p.len) (by omega)
  have a2 := free_num h0 (m := p.hei) (by omega)
  have a3 := free_num h0 (m := p.cl) (by omega)
  have a4 := free_num h0 (m := p.be) (by omega)
  have c1 : Free q (carT p) := by
    unfold carT
    split
    · exact free_nil q
    · exact free_app (free_one h1) (free_app (free_app a1 (free_one h2)) a2)
  have c2 : Free q (cabT p) := by
    unfold cabT
    split
    · exact free_nil q
    · exact free_app (free_one h3) a3
  have c3 : Free q (berT p) := by
    unfold berT
    split
    · exact free_nil q
    · exact free_app (free_one h4) a4
  unfold partyT
  split
  · exact free_app a0 c1
  · exact free_app (free_app (free_app a0 c1) c2) c3
theorem opt_mem {b : Bool} {q p : ByteArray} (h : p ∈ opt b q) : b = true ∧ p = q := by
  unfold opt at h
  cases b with
  | false => simp at h
  | true => simp at h; exact ⟨rfl, h⟩
theorem parts_op {y : OpD} (h : HasText y) : Parts 32 (opT y) (opP6 y) := by
  refine ⟨by simp [opP6, opP5, opP4, opP3, opP2, opP1, opP0], rfl, fun p hp => ?_⟩
  obtain ⟨k, hk⟩ : ∃ k, k = y.kind.toNat := ⟨_, rfl⟩
  have hk9 : k < 10 := by have := h.1.1; unfold In at this; omega
  unfold opP6 opP5 opP4 opP3 opP2 opP1 opP0 at hp
  rw [← hk] at hp
  simp only [List.mem_append, List.mem_singleton] at hp
  rcases hp with ((((((hp | hp) | hp) | hp) | hp) | hp) | hp)
  · rw [hp]; exact free_word k hk9
  · obtain ⟨q, rfl⟩ := opt_mem hp
    exact free_num nd32 (rng1 h hk.symm q).1
  · obtain ⟨q, rfl⟩ := opt_mem hp
    have h1 := h.1.2.1
    unfold OwnerOk at h1
    split at h1
    · exact free_name h1 (by unfold Letter; decide)
    · have e : y.own = ⟨#[]⟩ := by
        apply ByteArray.ext
        exact Array.eq_empty_of_size_eq_zero h1
      rw [e]
      exact free_nil 32
  · obtain ⟨q, rfl⟩ := opt_mem hp
    exact free_join (q := 44) (by decide) _ (fun x hx => by
      obtain ⟨i, hi, rfl⟩ := List.mem_map.1 hx
      exact free_num nd32 (h.2 i (by simpa using hi)).1)
  · obtain ⟨q, rfl⟩ := opt_mem hp
    exact free_party nd32 (by decide) (by decide) (by decide) (by decide) (rng4 h hk.symm q)
  · obtain ⟨q, rfl⟩ := opt_mem hp
    exact free_num nd32 (rng5 h hk.symm q).1
  · obtain ⟨q, rfl⟩ := opt_mem hp
    exact free_num nd32 (rng6 h hk.symm q).1
theorem nx_opt (b : Bool) (p : ByteArray) (L : List ByteArray) : nx b (opt b p ++ L) = L := by
  cases b <;> rfl
theorem hd_opt {b : Bool} (h : b = true) (p : ByteArray) (L : List ByteArray) : hd (opt b p ++ L) = p := by
  subst h
  rfl
theorem op_list (y : OpD) : opP6 y = wordT y.kind.toNat :: (opt (fName y.kind.toNat) (numT y.name) ++ (opt (fOwner y.kind.toNat) y.own ++ (opt (decide (0 < fLegs y.kind.toNat)) (legsT y.lgn y.lg) ++ (opt (fParty y.kind.toNat) (partyT y.p) ++ (opt (fUntil y.kind.toNat) (numT y.unt) ++ (opt (fNow y.kind.toNat) (numT y.now) ++ [])))))) := by
  unfold opP6 opP5 opP4 opP3 opP2 opP1 opP0
  simp only [List.append_assoc, List.cons_append, List.nil_append, List.append_nil]
theorem zero_name {y : OpD} {k : Nat} (h : HasText y) (hk : y.kind.toNat = k) (hq : fName k = false) : y.name = 0 := by
  have h1 := h.1.2.2.1
  have h0 := h.1.1
  unfold NameOk at h1
  unfold In at h0
  rw [if_neg] at h1
  · exact h1
  · intro c
    unfold In at c
    unfold fName at hq
    exact absurd (⟨by omega, by omega⟩ : 4 ≤ k ∧ k ≤ 8) (of_decide_eq_false hq)
theorem zero_own {y : OpD} {k : Nat} (h : HasText y) (hk : y.kind.toNat = k) (hq : fOwner k = false) : y.own = ⟨#[]⟩ := by
  have h1 := h.1.2.1
  have h0 := h.1.1
  unfold OwnerOk at h1
  unfold In at h0
  unfold fOwner at hq
  have hq := of_decide_eq_false hq
  rw [if_neg (by omega)] at h1
  apply ByteArray.ext
  exact Array.eq_empty_of_size_eq_zero h1
theorem zero_legs {y : OpD} {k : Nat} (h : HasText y) (hk : y.kind.toNat = k) (hq : decide (0 < fLegs k) = false) : y.lgn = 0 := by
  have h1 := h.1.2.2.2.1
  have h0 := h.1.1
  have hq := of_decide_eq_false hq
  unfold In at h0
  unfold LegsOkFor at h1
  unfold fLegs at hq
  by_cases c : HasLegs y.kind
  · unfold HasLegs at c
    rw [if_pos (by omega)] at hq
    omega
  · rw [if_neg c] at h1
    unfold HasLegs at c
    rw [if_neg (by omega)] at hq
    by_cases d : y.kind = 9
    · rw [if_pos (by omega)] at hq
      omega
    · rw [if_neg d] at h1
      exact h1
theorem zero_party {y : OpD} {k : Nat} (h : HasText y) (hk : y.kind.toNat = k) (hq : fParty k = false) : y.p = noParty := by
  have h1 := h.1.2.2.2.2.1
  unfold PartyOkFor at h1
  rw [if_neg (fun c => by rw [(hasLegs_of h hk).2 c] at hq; cases hq)] at h1
  unfold NoParty at h1
  generalize y.p = p at h1
  obtain ⟨a, b, c, d, e, f⟩ := p
  obtain ⟨rfl, rfl, rfl, rfl, rfl, rfl⟩ := h1
  rfl
theorem zero_unt {y : OpD} {k : Nat} (h : HasText y) (hk : y.kind.toNat = k) (hq : fUntil k = false) : y.unt = 0 := by
  have h1 := h.1.2.2.2.2.2.1
  unfold fUntil at hq
  have hq := of_decide_eq_false hq
  rcases h1 with h1 | h1
  · exact h1
  · exact absurd (by omega) hq
theorem zero_now {y : OpD} {k : Nat} (h : HasText y) (hk : y.kind.toNat = k) (hq : fNow k = false) : y.now = 0 := by
  have h1 := h.1.2.2.2.2.2.2
  unfold fNow at hq
  have hq := of_decide_eq_false hq
  rcases h1 with h1 | h1
  · exact h1
  · exact absurd (by omega) hq

set_option maxHeartbeats 1600000 in
theorem read_back {y : OpD} (h : HasText y) {l : List ByteArray} {x : OpR} (hl : Parts 32 (opT y) l) (hr : OpRead l x) : SameOp x.d y := by
  have e := parts_one hl (parts_op h)
  obtain ⟨k, hk⟩ : ∃ k, y.kind.toNat = k := ⟨_, rfl⟩
  have hkI : y.kind = (k : Int) := by have := h.1.1; unfold In at this; omega
  have hk9 : k < 10 := by have := h.1.1; unfold In at this; omega
  rw [op_list, hk] at e
  have r1 := hr.kind
  have r2 := hr.name
  have r3 := hr.own
  have r4 := hr.legs
  have r5 := hr.party
  have r6 := hr.unt
  have r7 := hr.now
  have eh : hd l = wordT k := by rw [e]; rfl
  have ek : kindOf (hd l) = k := by rw [eh]; exact kindOf_word hk9
  rw [ek] at r1 r2 r3 r4 r5 r6 r7
  have d1 : wd1 l = opt (fName k) (numT y.name) ++ (opt (fOwner k) y.own ++ (opt (decide (0 < fLegs k)) (legsT y.lgn y.lg) ++ (opt (fParty k) (partyT y.p) ++ (opt (fUntil k) (numT y.unt) ++ (opt (fNow k) (numT y.now) ++ []))))) := by rw [e]; rfl
  have d2 : wd2 k l = opt (fOwner k) y.own ++ (opt (decide (0 < fLegs k)) (legsT y.lgn y.lg) ++ (opt (fParty k) (partyT y.p) ++ (opt (fUntil k) (numT y.unt) ++ (opt (fNow k) (numT y.now) ++ [])))) := by unfold wd2; rw [d1, nx_opt]
  have d3 : wd3 k l = opt (decide (0 < fLegs k)) (legsT y.lgn y.lg) ++ (opt (fParty k) (partyT y.p) ++ (opt (fUntil k) (numT y.unt) ++ (opt (fNow k) (numT y.now) ++ []))) := by unfold wd3; rw [d2, nx_opt]
  have d4 : wd4 k l = opt (fParty k) (partyT y.p) ++ (opt (fUntil k) (numT y.unt) ++ (opt (fNow k) (numT y.now) ++ [])) := by unfold wd4; rw [d3, nx_opt]
  have d5 : wd5 k l = opt (fUntil k) (numT y.unt) ++ (opt (fNow k) (numT y.now) ++ []) := by unfold wd5; rw [d4, nx_opt]
  have d6 : wd6 k l = opt (fNow k) (numT y.now) ++ [] := by unfold wd6; rw [d5, nx_opt]
  rw [d1] at r2
  rw [d2] at r3
  rw [d3] at r4
  rw [d4] at r5
  rw [d5] at r6
  rw [d6] at r7
  have q2 : x.name = y.name := by
    cases c : fName k with
    | false => rw [c] at r2; rw [zero_name h hk c]; exact r2
    | true =>
      rw [hd_opt c, c] at r2
      have := rng1 h hk c
      rw [r2]
      exact numOf_text ⟨this.1, by omega⟩
  have q3 : x.own = y.own := by
    cases c : fOwner k with
    | false => rw [c] at r3; rw [zero_own h hk c]; exact r3
    | true => rw [hd_opt c, c] at r3; exact r3
  have q4 : x.L.length = y.lgn ∧ ∀ i, i < y.lgn → getI x.L i = y.lg i := by
    cases c : decide (0 < fLegs k) with
    | false =>
      have r4 : x.L = [] := r4.2 c
      rw [zero_legs h hk c, r4]
      exact ⟨rfl, fun i hi => by omega⟩
    | true =>
      have r4 := r4.1 c
      rw [hd_opt c] at r4
      exact legs_back (rng3 h hk c).1 h.2 r4
  have q5 : x.p = y.p := by
    cases c : fParty k with
    | false => rw [c] at r5; rw [zero_party h hk c]; exact r5
    | true =>
      rw [hd_opt c, c] at r5
      rw [r5]
      exact readP_back (rng4 h hk c)
  have q6 : x.unt = y.unt := by
    cases c : fUntil k with
    | false => rw [c] at r6; rw [zero_unt h hk c]; exact r6
    | true =>
      rw [hd_opt c, c] at r6
      have := rng5 h hk c
      rw [r6]
      exact numOf_text ⟨this.1, by omega⟩
  have q7 : x.now = y.now := by
    cases c : fNow k with
    | false => rw [c] at r7; rw [zero_now h hk c]; exact r7
    | true =>
      rw [hd_opt c, c] at r7
      have := rng6 h hk c
      rw [r7]
      exact numOf_text ⟨this.1, by omega⟩
  exact ⟨by rw [hkI]; exact r1, q3, q2, q4.1, q4.2, q5, q6, q7⟩

end Go.Proofs.YtfbooamjddnagaaDoor

namespace Go.Proofs.YtfbooamjddnagaaDoor
open Go.RowKit

def noOp : OpR := ⟨0, ⟨#[]⟩, 0, .slice none 0 0, [], noParty, 0, 0⟩
/-- y and ok are the answer of a reader of s that read x. -/
def AnsOp (s : ByteArray) (x y : OpR) (ok : Bool) : Prop := (ok = true ∧ HasText x.d ∧ opT x.d = s ∧ y = x) ∨ (ok = false ∧ ¬ (HasText x.d ∧ opT x.d = s) ∧ y = noOp)
/-- What ReadOp answers: its operation in memory of its own. -/
structure ReadOut (s : ByteArray) (w w' : World) (y : OpR) (ok : Bool) : Prop where
  ans : ∃ x, AnsOp s x y ok ∧ ∀ z, HasText z → opT z = s → SameOp x.d z
  own : w'.ownsRow w.heap.size 3 1 y.v y.L.length (cellsI y.L)
  few : y.L.length ≤ 4194304
  bel : Below w.heap.size w w'
def ReadPost (s : ByteArray) (w : World) (e : Ending) (w' : World) : Prop := ∃ y ok, e = .returned (.tuple #[.agg y.cs, .bool ok]) ∧ ReadOut s w w' y ok
theorem legs_few {l : List ByteArray} {x : OpR} (h : OpRead l x) (hl : ∀ q, q ∈ l → q.size ≤ 1048576) : x.L.length ≤ 1048577 ∧ x.own.size ≤ 1048576 := by
  have hin1 : ∀ q, q ∈ wd1 l → q ∈ l := fun q hq => List.mem_of_mem_tail hq
  have hnx : ∀ (b : Bool) (L : List ByteArray), (∀ q, q ∈ L → q ∈ l) → ∀ q, q ∈ nx b L → q ∈ l := fun b L hL q hq => by
    unfold nx at hq
    split at hq
    · exact hL q (List.mem_of_mem_tail hq)
    · exact hL q hq
  have hh : ∀ L : List ByteArray, (∀ q, q ∈ L → q ∈ l) → (hd L).size ≤ 1048576 := fun L hL => by
    unfold hd
    cases L with
    | nil => exact Nat.zero_le _
    | cons q r => exact hl q (hL q (by simp))
  constructor
  · cases c : decide (0 < fLegs (kindOf (hd l))) with
    | true =>
      have h1 := (h.legs.1 c).1
      have h2 := hh (wd3 (kindOf (hd l)) l) (hnx _ _ (hnx _ _ hin1))
      omega
    | false => rw [h.legs.2 c]; simp
  · rw [h.own]
    split
    · exact hh _ (hnx _ _ hin1)
    · exact Nat.zero_le _

set_option maxHeartbeats 3200000 in
set_option maxRecDepth 100000 in
theorem implRead_any (s : ByteArray) (w : World) (hs : s.size ≤ 1048576) (hP : PowAt w) (hF : FormsAt w) (hW : WordsAt w) :
    Calls Tryd.prog 13 #[.string s] w fun e w' => ReadPost s w e w' := by
  have HT : Hid (PowAt w ∧ FormsAt w ∧ WordsAt w) := ⟨hP, hF, hW⟩
  have hgl : 4 < w.heap.size ∧ 0 < w.heap.size ∧ 1 < w.heap.size := ⟨by
    have h := hP
    unfold PowAt Lib.TabIs World.var? at h
    rw [Tryd.gPow] at h
    simp only [Option.bind_some] at h
    rcases Nat.lt_or_ge 4 w.heap.size with h' | h'
    · exact h'
    · rw [Array.getElem?_eq_none h'] at h; simp at h, hF.lt, hW.lt⟩
  clear hP hF hW
  have hr := heap_alloc_new w (.cells #[.int .i64 0, .string ⟨#[]⟩, .int .i64 0, .slice none 0 0, .int .i64 0, .int .i64 0, .int .i64 0, .int .i64 0, .bool false, .int .i64 0, .int .i64 0, .int .i64 0] 32)
  have hb0 : Below w.heap.size w (w.alloc (.cells #[.int .i64 0, .string ⟨#[]⟩, .int .i64 0, .slice none 0 0, .int .i64 0, .int .i64 0, .int .i64 0, .int .i64 0, .bool false, .int .i64 0, .int .i64 0, .int .i64 0] 32)) := push (Below.refl _ _) _
  go_enter Tryd.func13, Tryd.ntmps13
  go_upto_region 1 with fail
  generalize w.alloc (.cells #[.int .i64 0, .string ⟨#[]⟩, .int .i64 0, .slice none 0 0, .int .i64 0, .int .i64 0, .int .i64 0, .int .i64 0, .bool false, .int .i64 0, .int .i64 0, .int .i64 0] 32) = W at hr hb0 ⊢
  have hsz := hb0.size
  go_wp2_with fail
  refine (wordsIn_any s _ hs).mono ?_
  rintro e w1 ⟨b, l, rfl, hbb, HWP, hb1⟩
  have hB1 := after hb0 hb1
  have hr1 := blk_below hr hb1
  have HL : Hid (∀ q, q ∈ l → q.size ≤ 1048576) := fun q hq => by have := parts_le HWP.out.2.1 q hq; omega
  have hs1 := hb1.size
  go_wp2_with fail
  refine (opIn_any b l _ HL.out HWP.out.1 (HT.out.1.below hB1) (HT.out.2.1.below hB1) (HT.out.2.2.below hB1) (by omega) (by omega) (by omega)).mono ?_
  rintro e w2 ⟨x, rfl, hox, HRD, hk2⟩
  have hrb : ¬ w.heap.size = b := by have := blk_lt hr; omega
  have hr2 := hk2.blk hr1 hrb
  have hB2 : Below w.heap.size w w2 := Kept.below hB1 hB1.size hk2 (fun k e => by have e : k = b := e; omega)
  have HLF : Hid (x.L.length ≤ 1048577 ∧ x.own.size ≤ 1048576) := legs_few HRD.out HL.out
  have HBK : Hid (∀ z, HasText z → opT z = s → SameOp x.d z) := fun z hz e => read_back hz (by rw [e]; exact HWP.out.2.1) HRD.out
  have HO2 : Hid (w2.ownsRow w.heap.size 3 1 x.v x.L.length (cellsI x.L)) := own_base hox hB1.size
  obtain ⟨va, vc, hv, hvc, hvm, hvn⟩ := own_form hox
  have HV : Hid (x.v = .slice va x.L.length vc) := hv
  have ecs : x.cs = #[.int .i64 x.kind, .string x.own, .int .i64 x.name, .slice va x.L.length vc, .int .i64 x.p.pe, .int .i64 x.p.len, .int .i64 x.p.hei, .int .i64 x.p.cl, .bool x.p.all, .int .i64 x.p.be, .int .i64 x.unt, .int .i64 x.now] := by unfold OpR.cs; rw [hv]
  rw [ecs]
  have HECS : Hid (x.cs = #[.int .i64 x.kind, .string x.own, .int .i64 x.name, .slice va x.L.length vc, .int .i64 x.p.pe, .int .i64 x.p.len, .int .i64 x.p.hei, .int .i64 x.p.cl, .bool x.p.all, .int .i64 x.p.be, .int .i64 x.unt, .int .i64 x.now]) := ecs
  clear hr hb0 hb1 hB1 hr1 hs1 HWP HL HRD hk2 hrb hox hv ecs hbb hgl
  have b3 := heap_alloc_new w2 (.cells #[.int .i64 x.kind, .string x.own, .int .i64 x.name, .slice va x.L.length vc, .int .i64 x.p.pe, .int .i64 x.p.len, .int .i64 x.p.hei, .int .i64 x.p.cl, .bool x.p.all, .int .i64 x.p.be, .int .i64 x.unt, .int .i64 x.now] 32)
  have p3 : Below w2.heap.size w2 (w2.alloc (.cells #[.int .i64 x.kind, .string x.own, .int .i64 x.name, .slice va x.L.length vc, .int .i64 x.p.pe, .int .i64 x.p.len, .int .i64 x.p.hei, .int .i64 x.p.cl, .bool x.p.all, .int .i64 x.p.be, .int .i64 x.unt, .int .i64 x.now] 32)) := push (Below.refl _ _) _
  go_upto_region 2 with fail
  generalize w2.alloc (.cells #[.int .i64 x.kind, .string x.own, .int .i64 x.name, .slice va x.L.length vc, .int .i64 x.p.pe, .int .i64 x.p.len, .int .i64 x.p.hei, .int .i64 x.p.cl, .bool x.p.all, .int .i64 x.p.be, .int .i64 x.unt, .int .i64 x.now] 32) = W3 at b3 p3 ⊢
  have hB3 := after hB2 p3
  have hr3 := blk_below hr2 p3
  have HO3 : Hid (W3.ownsRow w.heap.size 3 1 x.v x.L.length (cellsI x.L)) := own_below p3 HO2.out
  have hlt := blk_lt hr2
  have HIS : Hid (OpD.Is W3 [.int .i64 x.kind, .string x.own, .int .i64 x.name, .slice va x.L.length vc, .int .i64 x.p.pe, .int .i64 x.p.len, .int .i64 x.p.hei, .int .i64 x.p.cl, .bool x.p.all, .int .i64 x.p.be, .int .i64 x.unt, .int .i64 x.now] x.d) := ⟨va, vc, rfl, own_ints (by have h := HO3.out; rw [HV.out] at h; exact h), ⟨hvc, hvm, hvn⟩⟩
  have y0 := blk_cell b3 0 _ rfl
  have y1 := blk_cell b3 1 _ rfl
  have y2 := blk_cell b3 2 _ rfl
  have y3 := blk_cell b3 3 _ rfl
  have y4 := blk_cell b3 4 _ rfl
  have y5 := blk_cell b3 5 _ rfl
  have y6 := blk_cell b3 6 _ rfl
  have y7 := blk_cell b3 7 _ rfl
  have y8 := blk_cell b3 8 _ rfl
  have y9 := blk_cell b3 9 _ rfl
  have y10 := blk_cell b3 10 _ rfl
  have y11 := blk_cell b3 11 _ rfl
  generalize hT : textOf x.d = T
  generalize hH : hasT x.d = H
  have ct := implText_any [.int .i64 x.kind, .string x.own, .int .i64 x.name, .slice va x.L.length vc, .int .i64 x.p.pe, .int .i64 x.p.len, .int .i64 x.p.hei, .int .i64 x.p.cl, .bool x.p.all, .int .i64 x.p.be, .int .i64 x.unt, .int .i64 x.now] x.d W3 (by have h := HLF.out.2; show x.own.size ≤ _; omega) HIS.out (by have h := HLF.out.1; show x.L.length ≤ _; omega) (HT.out.1.below hB3) (HT.out.2.1.below hB3) (HT.out.2.2.below hB3)
  rw [hT, hH] at ct
  have HTH : Hid (textOf x.d = T ∧ hasT x.d = H) := ⟨hT, hH⟩
  clear hT hH
  go_wp2_with fail
  refine ct.mono ?_
  clear ct
  rintro e w4 ⟨rfl, hb4⟩
  have hB4 := after hB3 hb4
  have hr4 := blk_below hr3 hb4
  have b4 := blk_below b3 hb4
  have HO4 : Hid (w4.ownsRow w.heap.size 3 1 x.v x.L.length (cellsI x.L)) := own_below hb4 HO3.out
  clear y0 y1 y2 y3 y4 y5 y6 y7 y8 y9 y10 y11 hB2 hB3 hr2 hr3 b3 p3 hb4 HO2 HO3 HIS
  have hne : ¬ w.heap.size = w2.heap.size := by omega
  have s0 := blk_cell hr4 0 _ rfl
  have g0 := blk_free hr4 0
  have s1 := blk_cell hr4 1 _ rfl
  have g1 := blk_free hr4 1
  have s2 := blk_cell hr4 2 _ rfl
  have g2 := blk_free hr4 2
  have s3 := blk_cell hr4 3 _ rfl
  have g3 := blk_free hr4 3
  have s4 := blk_cell hr4 4 _ rfl
  have g4 := blk_free hr4 4
  have s5 := blk_cell hr4 5 _ rfl
  have g5 := blk_free hr4 5
  have s6 := blk_cell hr4 6 _ rfl
  have g6 := blk_free hr4 6
  have s7 := blk_cell hr4 7 _ rfl
  have g7 := blk_free hr4 7
  have s8 := blk_cell hr4 8 _ rfl
  have g8 := blk_free hr4 8
  have s9 := blk_cell hr4 9 _ rfl
  have g9 := blk_free hr4 9
  have s10 := blk_cell hr4 10 _ rfl
  have g10 := blk_free hr4 10
  have s11 := blk_cell hr4 11 _ rfl
  have g11 := blk_free hr4 11
  by_cases hok : H = true ∧ T = s
  case neg =>
    have HNO : Hid (¬ (HasText x.d ∧ opT x.d = s)) := fun h => hok (by
      have h1 := textOf_yes h.1
      rw [HTH.out.1, HTH.out.2] at h1
      exact ⟨h1.2, by rw [h1.1]; exact h.2⟩)
    have rF := box_12 hr4 (.int .i64 0) (.string ⟨#[]⟩) (.int .i64 0) (.slice none 0 0) (.int .i64 0) (.int .i64 0) (.int .i64 0) (.int .i64 0) (.bool false) (.int .i64 0) (.int .i64 0) (.int .i64 0)
    have kF := keep_12 w4 w.heap.size (.int .i64 0) (.string ⟨#[]⟩) (.int .i64 0) (.slice none 0 0) (.int .i64 0) (.int .i64 0) (.int .i64 0) (.int .i64 0) (.bool false) (.int .i64 0) (.int .i64 0) (.int .i64 0)
    have HFN : Hid (ReadOut s w _ noOp false) := ⟨⟨x, .inr ⟨rfl, HNO.out, rfl⟩, HBK.out⟩, World.ownsRow_nil _ _ _ _, Nat.zero_le _, Kept.below hB4 hB4.size kF (fun k e => by have e : k = w.heap.size := e; omega)⟩
    clear kF
    go_upto_region 3 with fail
    go_cut [21] (fun v wx => v = .bool true ∧ wx = w4)
    case first =>
      cases H with
      | false =>
        go_wp2
        go_meet
        exact ⟨rfl, rfl⟩
      | true =>
        have hT : T ≠ s := fun e => hok ⟨rfl, e⟩
        have et : (T.toList == s.toList) = false := bytes_ne.2 hT
        clear hT hok
        go_wp2
        go_meet
        exact ⟨rfl, rfl⟩
    case rest =>
    obtain ⟨rfl, hwx⟩ := hcut
    have hwx := hwx.symm
    subst hwx
    clear hok
    go_wp2
    have t0 := blk_cell rF 0 _ rfl
    have t1 := blk_cell rF 1 _ rfl
    have t2 := blk_cell rF 2 _ rfl
    have t3 := blk_cell rF 3 _ rfl
    have t4 := blk_cell rF 4 _ rfl
    have t5 := blk_cell rF 5 _ rfl
    have t6 := blk_cell rF 6 _ rfl
    have t7 := blk_cell rF 7 _ rfl
    have t8 := blk_cell rF 8 _ rfl
    have t9 := blk_cell rF 9 _ rfl
    have t10 := blk_cell rF 10 _ rfl
    have t11 := blk_cell rF 11 _ rfl
    refine bodyPost_ret (v := .tuple #[.agg #[.int .i64 0, .string ⟨#[]⟩, .int .i64 0, .slice none 0 0, .int .i64 0, .int .i64 0, .int .i64 0, .int .i64 0, .bool false, .int .i64 0, .int .i64 0, .int .i64 0], .bool false]) (by simp [results, Tryd.results13, go_sem, t0, t1, t2, t3, t4, t5, t6, t7, t8, t9, t10, t11]) rfl ?_
    exact ⟨noOp, false, rfl, HFN.out⟩
  case pos =>
    obtain ⟨rfl, rfl⟩ := hok
    have HYES : Hid (HasText x.d ∧ opT x.d = T) := by
      have h1 : HasText x.d := (hasT_iff x.d).1 HTH.out.2
      have h2 := (textOf_yes h1).1
      rw [HTH.out.1] at h2
      exact ⟨h1, h2.symm⟩
    have et : (T.toList == T.toList) = true := by simp
    have p0 := blk_cell b4 0 _ rfl
    have p1 := blk_cell b4 1 _ rfl
    have p2 := blk_cell b4 2 _ rfl
    have p3 := blk_cell b4 3 _ rfl
    have p4 := blk_cell b4 4 _ rfl
    have p5 := blk_cell b4 5 _ rfl
    have p6 := blk_cell b4 6 _ rfl
    have p7 := blk_cell b4 7 _ rfl
    have p8 := blk_cell b4 8 _ rfl
    have p9 := blk_cell b4 9 _ rfl
    have p10 := blk_cell b4 10 _ rfl
    have p11 := blk_cell b4 11 _ rfl
    have rF := box_12 hr4 (.int .i64 x.kind) (.string x.own) (.int .i64 x.name) (.slice va x.L.length vc) (.int .i64 x.p.pe) (.int .i64 x.p.len) (.int .i64 x.p.hei) (.int .i64 x.p.cl) (.bool x.p.all) (.int .i64 x.p.be) (.int .i64 x.unt) (.int .i64 x.now)
    have kF := keep_12 w4 w.heap.size (.int .i64 x.kind) (.string x.own) (.int .i64 x.name) (.slice va x.L.length vc) (.int .i64 x.p.pe) (.int .i64 x.p.len) (.int .i64 x.p.hei) (.int .i64 x.p.cl) (.bool x.p.all) (.int .i64 x.p.be) (.int .i64 x.unt) (.int .i64 x.now)
    have HFY : Hid (ReadOut T w _ x true) := ⟨⟨x, .inl ⟨rfl, HYES.out.1, HYES.out.2, rfl⟩, HBK.out⟩, kF.own HO4.out (own_notT HO4.out hr4 (by decide)), by have := HLF.out.1; omega, Kept.below hB4 hB4.size kF (fun k e => by have e : k = w.heap.size := e; omega)⟩
    clear kF
    go_wp2
    have t0 := blk_cell rF 0 _ rfl
    have t1 := blk_cell rF 1 _ rfl
    have t2 := blk_cell rF 2 _ rfl
    have t3 := blk_cell rF 3 _ rfl
    have t4 := blk_cell rF 4 _ rfl
    have t5 := blk_cell rF 5 _ rfl
    have t6 := blk_cell rF 6 _ rfl
    have t7 := blk_cell rF 7 _ rfl
    have t8 := blk_cell rF 8 _ rfl
    have t9 := blk_cell rF 9 _ rfl
    have t10 := blk_cell rF 10 _ rfl
    have t11 := blk_cell rF 11 _ rfl
    refine bodyPost_ret (v := .tuple #[.agg #[.int .i64 x.kind, .string x.own, .int .i64 x.name, .slice va x.L.length vc, .int .i64 x.p.pe, .int .i64 x.p.len, .int .i64 x.p.hei, .int .i64 x.p.cl, .bool x.p.all, .int .i64 x.p.be, .int .i64 x.unt, .int .i64 x.now], .bool true]) (by simp [results, Tryd.results13, go_sem, t0, t1, t2, t3, t4, t5, t6, t7, t8, t9, t10, t11]) rfl ?_
    exact ⟨x, true, by rw [HECS.out], HFY.out⟩

end Go.Proofs.YtfbooamjddnagaaDoor

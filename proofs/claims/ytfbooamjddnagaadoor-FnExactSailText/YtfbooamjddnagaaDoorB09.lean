/-
  OWN TEXT: PlainTt, InI.
-/
import Derived.Test.YtfbooamjddnagaaDoorRows
import Derived.Deep.RegionHeld3
import Derived.Deep.LoopGhost
import Derived.Deep.DeepCutAuto
import Derived.Test.YtfbooamjddnagaaDoorB01
import Derived.Test.YtfbooamjddnagaaDoorB08
import Derived.Test.YtfbooamjddnagaaDoorB05
namespace Go.Proofs.YtfbooamjddnagaaDoor
open Go.RowKit

theorem numT_nat (u : Nat) : numT (u : Int) = ⟨(Lib.decDigits u).toArray⟩ := by
  unfold numT Lib.itoa
  rw [if_neg (by omega)]
  rfl
theorem numT_size {n : Int} (h0 : 0 ≤ n) (h1 : n ≤ 9223372036854775807) : (numT n).size ≤ 100 := by
  obtain ⟨u, rfl⟩ := Int.eq_ofNat_of_zero_le h0
  rw [numT_nat]
  show (Lib.decDigits u).toArray.size ≤ 100
  rw [List.size_toArray]
  exact dec_size u (by omega)
theorem l1Num_any {n : Int} (h0 : 0 ≤ n) (h1 : n ≤ 9223372036854775807) (w : World) : Calls Tryd.prog 66 #[.int .i64 n] w fun e w' => e = .returned (.string (numT n)) ∧ Below w.heap.size w w' := by
  obtain ⟨u, rfl⟩ := Int.eq_ofNat_of_zero_le h0
  rw [numT_nat]
  exact l1Num_nat u w (by omega)
theorem add_run (a b : ByteArray) (ha : a.size ≤ 1000000) (hb : b.size ≤ 1000000) (W : World) : (Op.stringOp .add a b).run Tryd.prog W = .ok (.string (a ++ b)) W := run_string_add_sum W a b (by omega)

def spT : ByteArray := ⟨#[32]⟩
def coT : ByteArray := ⟨#[44]⟩
def opt (b : Bool) (p : ByteArray) : List ByteArray := if b then [p] else []
theorem joinT_one (sep p : ByteArray) : joinT sep [p] = p := by
  unfold joinT
  rw [List.map_cons, List.map_nil, Lib.join_one, Lib.mk_data]
theorem join_snoc (sep : List UInt8) : ∀ (l : List (List UInt8)) (p : List UInt8), l ≠ [] → Lib.join (l ++ [p]) sep = Lib.join l sep ++ (sep ++ p)
  | [], _, h => absurd rfl h
  | x :: r, p, _ => by
    rw [List.cons_append, Lib.join_cons, Lib.join_cons]
    simp [Lib.joinTail, List.append_assoc]
theorem joinT_snoc (sep p : ByteArray) {l : List ByteArray} (h : l ≠ []) : joinT sep (l ++ [p]) = joinT sep l ++ (sep ++ p) := by
  unfold joinT
  rw [List.map_append, List.map_cons, List.map_nil, join_snoc _ _ _ (by simpa using h)]
  apply ByteArray.ext
  simp [ByteArray.data_append]
theorem joinT_le (sep : ByteArray) (hs : sep.size ≤ 1) (l : List ByteArray) (hl : ∀ p, p ∈ l → p.size ≤ 1000) : (joinT sep l).size ≤ 1001 * l.length := by
  have key : ∀ m : List ByteArray, (∀ p, p ∈ m → p.size ≤ 1000) → (joinT sep m.reverse).size ≤ 1001 * m.length := by
    intro m
    induction m with
    | nil => intro _; show (joinT sep []).size ≤ _; exact Nat.zero_le _
    | cons a r ih =>
      intro h
      have ha := h a (by simp)
      have hr := ih (fun p hp => h p (by simp [hp]))
      rw [List.reverse_cons]
      by_cases c : r.reverse = []
      · rw [c, List.nil_append, joinT_one, List.length_cons]; omega
      · rw [joinT_snoc sep a c, ByteArray.size_append, ByteArray.size_append, List.length_cons]; omega
  have := key l.reverse (fun p hp => hl p (by simpa using hp))
  rw [List.reverse_reverse, List.length_reverse] at this
  exact this

def carT (p : Party) : ByteArray := if p.len = 0 ∧ p.hei = 0 then ⟨#[]⟩ else (⟨#[43]⟩ : ByteArray) ++ (numT p.len ++ ⟨#[47]⟩ ++ numT p.hei)
def berT (p : Party) : ByteArray := if p.all = true then ⟨#[]⟩ else (⟨#[120]⟩ : ByteArray) ++ numT p.be
def cabT (p : Party) : ByteArray := if p.cl = 0 then ⟨#[]⟩ else (⟨#[64]⟩ : ByteArray) ++ numT p.cl
/-- A party's text. -/
def partyT (p : Party) : ByteArray := if p.cl = 0 then numT p.pe ++ carT p else numT p.pe ++ carT p ++ cabT p ++ berT p
/-- Numbers with a comma between. -/
def legsT (n : Nat) (f : Nat → Int) : ByteArray := joinT coT ((List.range n).map (fun i => numT (f i)))
def wordT (k : Nat) : ByteArray := match k with
  | 1 => ⟨#[113, 117, 111, 116, 101]⟩
  | 2 => ⟨#[104, 111, 108, 100]⟩
  | 3 => ⟨#[98, 111, 111, 107]⟩
  | 4 => ⟨#[99, 111, 110, 102, 105, 114, 109]⟩
  | 5 => ⟨#[97, 109, 101, 110, 100]⟩
  | 6 => ⟨#[99, 97, 110, 99, 101, 108]⟩
  | 7 => ⟨#[116, 114, 97, 110, 115, 102, 101, 114]⟩
  | 8 => ⟨#[101, 120, 112, 105, 114, 101]⟩
  | 9 => ⟨#[109, 97, 110, 105, 102, 101, 115, 116]⟩
  | _ => ⟨#[]⟩
theorem wordT_size (k : Nat) : (wordT k).size ≤ 10 := by
  unfold wordT
  split <;> decide
/-- An operation's words, the first of them, and so on. -/
def opP0 (x : OpD) : List ByteArray := [wordT x.kind.toNat]
def opP1 (x : OpD) : List ByteArray := opP0 x ++ opt (fName x.kind.toNat) (numT x.name)
def opP2 (x : OpD) : List ByteArray := opP1 x ++ opt (fOwner x.kind.toNat) x.own
def opP3 (x : OpD) : List ByteArray := opP2 x ++ opt (decide (0 < fLegs x.kind.toNat)) (legsT x.lgn x.lg)
def opP4 (x : OpD) : List ByteArray := opP3 x ++ opt (fParty x.kind.toNat) (partyT x.p)
def opP5 (x : OpD) : List ByteArray := opP4 x ++ opt (fUntil x.kind.toNat) (numT x.unt)
def opP6 (x : OpD) : List ByteArray := opP5 x ++ opt (fNow x.kind.toNat) (numT x.now)
/-- An operation's text. -/
def opT (x : OpD) : ByteArray := joinT spT (opP6 x)
/-- It has one. -/
def HasText (x : OpD) : Prop := OpOk x ∧ ∀ i, i < x.lgn → In (x.lg i) 0 99999
theorem opP0_ne (x : OpD) : opP0 x ≠ [] := by simp [opP0]
theorem opP1_ne (x : OpD) : opP1 x ≠ [] := by simp [opP1, opP0]
theorem opP2_ne (x : OpD) : opP2 x ≠ [] := by simp [opP2, opP1, opP0]
theorem opP3_ne (x : OpD) : opP3 x ≠ [] := by simp [opP3, opP2, opP1, opP0]
theorem opP4_ne (x : OpD) : opP4 x ≠ [] := by simp [opP4, opP3, opP2, opP1, opP0]
theorem opP5_ne (x : OpD) : opP5 x ≠ [] := by simp [opP5, opP4, opP3, opP2, opP1, opP0]
theorem joinT_opt {sep p : ByteArray} {l : List ByteArray} (h : l ≠ []) {b : Bool} (hb : b = true) : joinT sep (l ++ opt b p) = joinT sep l ++ (sep ++ p) := by
  subst hb
  exact joinT_snoc sep p h
theorem joinT_non {sep p : ByteArray} {l : List ByteArray} {b : Bool} (hb : b = false) : joinT sep (l ++ opt b p) = joinT sep l := by
  subst hb
  show joinT sep (l ++ []) = _
  rw [List.append_nil]

theorem len_P0 (x : OpD) : (opP0 x).length ≤ 1 := by
  simp [opP0]
theorem len_P1 (x : OpD) : (opP1 x).length ≤ 2 := by
  have := len_P0 x
  unfold opP1 opt
  rw [List.length_append]
  split <;> simp <;> omega
theorem len_P2 (x : OpD) : (opP2 x).length ≤ 3 := by
  have := len_P1 x
  unfold opP2 opt
  rw [List.length_append]
  split <;> simp <;> omega
theorem len_P3 (x : OpD) : (opP3 x).length ≤ 4 := by
  have := len_P2 x
  unfold opP3 opt
  rw [List.length_append]
  split <;> simp <;> omega
theorem len_P4 (x : OpD) : (opP4 x).length ≤ 5 := by
  have := len_P3 x
  unfold opP4 opt
  rw [List.length_append]
  split <;> simp <;> omega
theorem len_P5 (x : OpD) : (opP5 x).length ≤ 6 := by
  have := len_P4 x
  unfold opP5 opt
  rw [List.length_append]
  split <;> simp <;> omega
theorem len_P6 (x : OpD) : (opP6 x).length ≤ 7 := by
  have := len_P5 x
  unfold opP6 opt
  rw [List.length_append]
  split <;> simp <;> omega
theorem rng1 {x : OpD} {k : Nat} (h : HasText x) (_ : x.kind.toNat = k) (_ : fName k = true) : 0 ≤ x.name ∧ x.name ≤ 30 := by
  have h1 := h.1.2.2.1
  unfold NameOk at h1
  split at h1
  · exact ⟨by have := h1.1; omega, h1.2⟩
  · omega
theorem rng5 {x : OpD} {k : Nat} (h : HasText x) (_ : x.kind.toNat = k) (_ : fUntil k = true) : 0 ≤ x.unt ∧ x.unt ≤ 10000 := by
  have h1 := h.1.2.2.2.2.2.1
  rcases h1 with h1 | h1
  · omega
  · exact h1.2
theorem rng6 {x : OpD} {k : Nat} (h : HasText x) (_ : x.kind.toNat = k) (_ : fNow k = true) : 0 ≤ x.now ∧ x.now ≤ 10000 := by
  have h1 := h.1.2.2.2.2.2.2
  rcases h1 with h1 | h1
  · omega
  · exact h1.2
theorem hasLegs_of {x : OpD} {k : Nat} (h : HasText x) (hk : x.kind.toNat = k) : fParty k = true ↔ HasLegs x.kind := by
  have := h.1.1
  unfold In at this
  unfold fParty HasLegs
  rw [decide_eq_true_eq]
  omega
theorem rng3 {x : OpD} {k : Nat} (h : HasText x) (hk : x.kind.toNat = k) (hq : decide (0 < fLegs k) = true) : 0 < x.lgn ∧ x.lgn ≤ 3 := by
  have h1 := h.1.2.2.2.1
  have h2 := h.1.1
  have h3 := of_decide_eq_true hq
  unfold In at h2
  unfold LegsOkFor at h1
  unfold fLegs at h3
  by_cases c : HasLegs x.kind
  · rw [if_pos c] at h1; omega
  · rw [if_neg c] at h1
    unfold HasLegs at c
    by_cases d : x.kind = 9
    · rw [if_pos d] at h1; omega
    · rw [if_neg (by omega), if_neg (by omega)] at h3
      omega
theorem rng4 {x : OpD} {k : Nat} (h : HasText x) (hk : x.kind.toNat = k) (hq : fParty k = true) : PartyOk x.p := by
  have h1 := h.1.2.2.2.2.1
  unfold PartyOkFor at h1
  rwa [if_pos ((hasLegs_of h hk).1 hq)] at h1

end Go.Proofs.YtfbooamjddnagaaDoor

namespace Go.Proofs.YtfbooamjddnagaaDoor
open Go.RowKit

theorem within_yes (x lo hi : Int) (w : World) (h : In x lo hi) :
    Calls Tryd.prog 69 #[.int .i64 x, .int .i64 lo, .int .i64 hi] w fun e w' => e = .returned (.bool true) ∧ w' = w := by
  have e1 : decide (lo ≤ x) = true := by simpa using h.1
  have e2 : decide (x ≤ hi) = true := by simpa using h.2
  clear h
  go_enter Tryd.func69, Tryd.ntmps69
  go_wp2
  go_ret
  exact ⟨rfl, rfl⟩
theorem within_no (x lo hi : Int) (w : World) (h : ¬ In x lo hi) :
    Calls Tryd.prog 69 #[.int .i64 x, .int .i64 lo, .int .i64 hi] w fun e w' => e = .returned (.bool false) ∧ w' = w := by
  by_cases h1 : lo ≤ x
  · have e1 : decide (lo ≤ x) = true := by simpa using h1
    have e2 : decide (x ≤ hi) = false := by simp; exact Int.not_le.1 (fun h2 => h ⟨h1, h2⟩)
    clear h h1
    go_enter Tryd.func69, Tryd.ntmps69
    go_wp2
    go_ret
    exact ⟨rfl, rfl⟩
  · have e1 : decide (lo ≤ x) = false := by simpa using h1
    clear h h1
    go_enter Tryd.func69, Tryd.ntmps69
    go_wp2
    go_ret
    exact ⟨rfl, rfl⟩
/-- isWithin in one word: it answers whether x lies there, and the world is as it was. -/
theorem within_is (x lo hi : Int) (w : World) :
    Calls Tryd.prog 69 #[.int .i64 x, .int .i64 lo, .int .i64 hi] w fun e w' => e = .returned (.bool (decide (In x lo hi))) ∧ w' = w := by
  by_cases h : In x lo hi
  · rw [decide_eq_true h]; exact within_yes x lo hi w h
  · rw [decide_eq_false h]; exact within_no x lo hi w h

end Go.Proofs.YtfbooamjddnagaaDoor

/-
  OWN TEXT: KindR, OpInI, PlainBk, PlainBl, PlainBm.
-/
import Derived.Test.YtfallpinmhbemaaGreatDoorB35
import Derived.Test.YtfallpinmhbemaaGreatDoorB31
namespace Go.Proofs.YtfallpinmhbemaaGreatDoor
open Go.RowKit

/-- The first kind below n that has the word, n where none has. -/
def kindTo (s : ByteArray) : Nat → Nat
  | 0 => 0
  | n + 1 => if kindTo s n < n then kindTo s n else if wordT n = s then n else n + 1
/-- The kind of a word, 0 where none has it. -/
def kindOf (s : ByteArray) : Nat := if kindTo s 10 < 10 then kindTo s 10 else 0
theorem kindTo_le (s : ByteArray) (n : Nat) : kindTo s n ≤ n := by
  induction n with
  | zero => exact Nat.le_refl _
  | succ n ih => unfold kindTo; split <;> (try split) <;> omega
theorem kindTo_not {s : ByteArray} {n : Nat} (h : ∀ j, j < n → wordT j ≠ s) : kindTo s n = n := by
  induction n with
  | zero => rfl
  | succ n ih =>
    unfold kindTo
    rw [ih (fun j hj => h j (by omega)), if_neg (by omega), if_neg (h n (by omega))]
theorem kindTo_at {s : ByteArray} {n k : Nat} (hk : k < n) (hs : wordT k = s) (h : ∀ j, j < k → wordT j ≠ s) : kindTo s n = k := by
  induction n with
  | zero => omega
  | succ n ih =>
    unfold kindTo
    by_cases c : k < n
    · rw [ih c, if_pos c]
    · obtain rfl : k = n := by omega
      rw [kindTo_not h, if_neg (by omega), if_pos hs]
theorem kindOf_lt (s : ByteArray) : kindOf s < 10 := by
  unfold kindOf
  split <;> omega
theorem kindOf_word : ∀ {k : Nat}, k < 10 → kindOf (wordT k) = k := by decide

def tenW : Array Value := #[.string (wordT 0), .string (wordT 1), .string (wordT 2), .string (wordT 3), .string (wordT 4), .string (wordT 5), .string (wordT 6), .string (wordT 7), .string (wordT 8), .string (wordT 9)]
theorem ten_0 (w : World) : (Instr.index 84 (.agg #[.string (wordT 0), .string (wordT 1), .string (wordT 2), .string (wordT 3), .string (wordT 4), .string (wordT 5), .string (wordT 6), .string (wordT 7), .string (wordT 8), .string (wordT 9)]) (.int .i64 0)).run Tryz.prog w = .ok (.string (wordT 0)) w := by kernel_rfl
theorem ten_1 (w : World) : (Instr.index 84 (.agg #[.string (wordT 0), .string (wordT 1), .string (wordT 2), .string (wordT 3), .string (wordT 4), .string (wordT 5), .string (wordT 6), .string (wordT 7), .string (wordT 8), .string (wordT 9)]) (.int .i64 1)).run Tryz.prog w = .ok (.string (wordT 1)) w := by kernel_rfl
theorem ten_2 (w : World) : (Instr.index 84 (.agg #[.string (wordT 0), .string (wordT 1), .string (wordT 2), .string (wordT 3), .string (wordT 4), .string (wordT 5), .string (wordT 6), .string (wordT 7), .string (wordT 8), .string (wordT 9)]) (.int .i64 2)).run Tryz.prog w = .ok (.string (wordT 2)) w := by kernel_rfl
theorem ten_3 (w : World) : (Instr.index 84 (.agg #[.string (wordT 0), .string (wordT 1), .string (wordT 2), .string (wordT 3), .string (wordT 4), .string (wordT 5), .string (wordT 6), .string (wordT 7), .string (wordT 8), .string (wordT 9)]) (.int .i64 3)).run Tryz.prog w = .ok (.string (wordT 3)) w := by kernel_rfl
theorem ten_4 (w : World) : (Instr.index 84 (.agg #[.string (wordT 0), .string (wordT 1), .string (wordT 2), .string (wordT 3), .string (wordT 4), .string (wordT 5), .string (wordT 6), .string (wordT 7), .string (wordT 8), .string (wordT 9)]) (.int .i64 4)).run Tryz.prog w = .ok (.string (wordT 4)) w := by kernel_rfl
theorem ten_5 (w : World) : (Instr.index 84 (.agg #[.string (wordT 0), .string (wordT 1), .string (wordT 2), .string (wordT 3), .string (wordT 4), .string (wordT 5), .string (wordT 6), .string (wordT 7), .string (wordT 8), .string (wordT 9)]) (.int .i64 5)).run Tryz.prog w = .ok (.string (wordT 5)) w := by kernel_rfl
theorem ten_6 (w : World) : (Instr.index 84 (.agg #[.string (wordT 0), .string (wordT 1), .string (wordT 2), .string (wordT 3), .string (wordT 4), .string (wordT 5), .string (wordT 6), .string (wordT 7), .string (wordT 8), .string (wordT 9)]) (.int .i64 6)).run Tryz.prog w = .ok (.string (wordT 6)) w := by kernel_rfl
theorem ten_7 (w : World) : (Instr.index 84 (.agg #[.string (wordT 0), .string (wordT 1), .string (wordT 2), .string (wordT 3), .string (wordT 4), .string (wordT 5), .string (wordT 6), .string (wordT 7), .string (wordT 8), .string (wordT 9)]) (.int .i64 7)).run Tryz.prog w = .ok (.string (wordT 7)) w := by kernel_rfl
theorem ten_8 (w : World) : (Instr.index 84 (.agg #[.string (wordT 0), .string (wordT 1), .string (wordT 2), .string (wordT 3), .string (wordT 4), .string (wordT 5), .string (wordT 6), .string (wordT 7), .string (wordT 8), .string (wordT 9)]) (.int .i64 8)).run Tryz.prog w = .ok (.string (wordT 8)) w := by kernel_rfl
theorem ten_9 (w : World) : (Instr.index 84 (.agg #[.string (wordT 0), .string (wordT 1), .string (wordT 2), .string (wordT 3), .string (wordT 4), .string (wordT 5), .string (wordT 6), .string (wordT 7), .string (wordT 8), .string (wordT 9)]) (.int .i64 9)).run Tryz.prog w = .ok (.string (wordT 9)) w := by kernel_rfl
theorem ten_at (w : World) (k : Nat) (hk : k < 10) : (Instr.index 84 (.agg #[.string (wordT 0), .string (wordT 1), .string (wordT 2), .string (wordT 3), .string (wordT 4), .string (wordT 5), .string (wordT 6), .string (wordT 7), .string (wordT 8), .string (wordT 9)]) (.int .i64 k)).run Tryz.prog w = .ok (.string (wordT k)) w := by
  have hc : k = 0 ∨ k = 1 ∨ k = 2 ∨ k = 3 ∨ k = 4 ∨ k = 5 ∨ k = 6 ∨ k = 7 ∨ k = 8 ∨ k = 9 := by omega
  rcases hc with rfl | rfl | rfl | rfl | rfl | rfl | rfl | rfl | rfl | rfl
  · exact ten_0 w
  · exact ten_1 w
  · exact ten_2 w
  · exact ten_3 w
  · exact ten_4 w
  · exact ten_5 w
  · exact ten_6 w
  · exact ten_7 w
  · exact ten_8 w
  · exact ten_9 w

set_option maxHeartbeats 1600000 in
set_option maxRecDepth 100000 in
theorem opKindOf_any (s : ByteArray) (w : World) (hW : WordsAt w) :
    Calls Tryz.prog 50 #[.string s] w fun e w' => e = .returned (.int .i64 (kindOf s)) ∧ Below w.heap.size w w' := by
  have w0 := hW 0 (by decide)
  have w1 := hW 1 (by decide)
  have w2 := hW 2 (by decide)
  have w3 := hW 3 (by decide)
  have w4 := hW 4 (by decide)
  have w5 := hW 5 (by decide)
  have w6 := hW 6 (by decide)
  have w7 := hW 7 (by decide)
  have w8 := hW 8 (by decide)
  have w9 := hW 9 (by decide)
  clear hW
  have HT : Hid (∀ k : Nat, k < 10 → ∀ W : World, (Instr.index 84 (.agg #[.string (wordT 0), .string (wordT 1), .string (wordT 2), .string (wordT 3), .string (wordT 4), .string (wordT 5), .string (wordT 6), .string (wordT 7), .string (wordT 8), .string (wordT 9)]) (.int .i64 k)).run Tryz.prog W = .ok (.string (wordT k)) W) := fun k hk W => ten_at W k hk
  go_enter Tryz.func50, Tryz.ntmps50
  go_wp2
  clear w0 w1 w2 w3 w4 w5 w6 w7 w8 w9
  go_loopw [3, 4, 6] (fun _ _ i wr => ∃ k : Nat, k ≤ 10 ∧ i = .int .i64 k ∧ Hid (∀ j, j < k → wordT j ≠ s) ∧ wr = w) (fun _ _ i _ => 10 - (intOf i).toNat)
  case atStart => exact ⟨0, Nat.zero_le _, rfl, fun j hj => by omega, rfl⟩
  case round =>
    obtain ⟨k, hk, rfl, HN, hwr⟩ := hrel
    have hwr := hwr.symm
    subst hwr
    by_cases hlt : k < 10
    · have hx := HT.out k hlt
      have d1 : decide ((k : Int) < 10) = true := decide_eq_true (by omega)
      by_cases he : wordT k = s
      · have ee : (s.toList == (wordT k).toList) = true := bytes_eq.2 he.symm
        have HR : Hid ((k : Int) = (kindOf s : Int)) := by
          have h1 := kindTo_at hlt he HN.out
          show (k : Int) = (kindOf s : Int)
          unfold kindOf
          rw [h1, if_pos hlt]
        clear he
        go_wp2
        go_ret
        exact ⟨congrArg (fun z => Ending.returned (Value.int .i64 z)) HR.out, Below.refl _ _⟩
      · have ee : (s.toList == (wordT k).toList) = false := bytes_ne.2 (fun e => he e.symm)
        have HN1 : Hid (∀ j, j < k + 1 → wordT j ≠ s) := fun j hj => by
          by_cases e : j = k
          · rw [e]; exact he
          · exact HN.out j (by omega)
        clear he
        go_wp2
        go_roundw
        case rel => exact ⟨k + 1, by omega, by go_num, HN1, trivial⟩
        case measure => simp [intOf]; omega
    · have d1 : decide ((k : Int) < 10) = false := decide_eq_false (by omega)
      have HR : Hid (0 = (kindOf s : Int)) := by
        obtain rfl : k = 10 := by omega
        have h1 := kindTo_not HN.out
        show 0 = (kindOf s : Int)
        unfold kindOf
        rw [h1, if_neg (by omega)]
        rfl
      go_wp2
      go_ret
      exact ⟨congrArg (fun z => Ending.returned (Value.int .i64 z)) HR.out, Below.refl _ _⟩

end Go.Proofs.YtfallpinmhbemaaGreatDoor

namespace Go.Proofs.YtfallpinmhbemaaGreatDoor
open Go.RowKit

/-- An operation as it is read, its legs as a value and as numbers. -/
structure OpR where
  kind : Int
  own : ByteArray
  name : Int
  v : Value
  L : List Int
  p : Party
  unt : Int
  now : Int
def OpR.cs (x : OpR) : Array Value := #[.int .i64 x.kind, .string x.own, .int .i64 x.name, x.v, .int .i64 x.p.pe, .int .i64 x.p.len, .int .i64 x.p.hei, .int .i64 x.p.cl, .bool x.p.all, .int .i64 x.p.be, .int .i64 x.unt, .int .i64 x.now]
def OpR.d (x : OpR) : OpD := ⟨x.kind, x.own, x.name, x.L.length, getI x.L, x.p.pe, x.p.len, x.p.hei, x.p.cl, x.p.all, x.p.be, x.unt, x.now⟩
def noParty : Party := ⟨0, 0, 0, 0, false, 0⟩
def nx (b : Bool) (l : List ByteArray) : List ByteArray := if b then l.tail else l
def hd (l : List ByteArray) : ByteArray := l.headD ⟨#[]⟩
def wd1 (l : List ByteArray) : List ByteArray := l.tail
def wd2 (k : Nat) (l : List ByteArray) : List ByteArray := nx (fName k) (wd1 l)
def wd3 (k : Nat) (l : List ByteArray) : List ByteArray := nx (fOwner k) (wd2 k l)
def wd4 (k : Nat) (l : List ByteArray) : List ByteArray := nx (decide (0 < fLegs k)) (wd3 k l)
def wd5 (k : Nat) (l : List ByteArray) : List ByteArray := nx (fParty k) (wd4 k l)
def wd6 (k : Nat) (l : List ByteArray) : List ByteArray := nx (fUntil k) (wd5 k l)
def wd7 (k : Nat) (l : List ByteArray) : List ByteArray := nx (fNow k) (wd6 k l)
theorem next_hd (b : Nat) (l : List ByteArray) (w : World) (h : WSt w b l) :
    Calls Tryz.prog 51 #[.pointer (some ⟨b, 0, none⟩)] w fun e w' => e = .returned (.string (hd l)) ∧ Hid (WSt w' b l.tail) ∧ Kept w w' (fun k => k = b) := wordNext_any b l w h
theorem name_hd (b : Nat) (l : List ByteArray) (w : World) (h : WSt w b l) (hl : (hd l).size ≤ 1048576) :
    Calls Tryz.prog 53 #[.pointer (some ⟨b, 0, none⟩)] w fun e w' => e = .returned (.string (hd l)) ∧ Hid (WSt w' b l.tail) ∧ Kept w w' (fun k => k = b) := name_any b l w h (by unfold hd at hl; omega)
theorem number_hd (b : Nat) (l : List ByteArray) (w : World) (h : WSt w b l) (hP : PowAt w) (hg : 4 ≠ b) :
    Calls Tryz.prog 52 #[.pointer (some ⟨b, 0, none⟩)] w fun e w' => e = .returned (.int .i64 (numOf (hd l))) ∧ Hid (WSt w' b l.tail) ∧ Kept w w' (fun k => k = b) := number_any b l w h hP hg
/-- x is read off the words l. -/
structure OpRead (l : List ByteArray) (x : OpR) : Prop where
  kind : x.kind = (kindOf (hd l) : Int)
  name : x.name = if fName (kindOf (hd l)) then numOf (hd (wd1 l)) else 0
  own : x.own = if fOwner (kindOf (hd l)) then hd (wd2 (kindOf (hd l)) l) else ⟨#[]⟩
  legs : (decide (0 < fLegs (kindOf (hd l))) = true → LegsRead (hd (wd3 (kindOf (hd l)) l)) x.L) ∧ (decide (0 < fLegs (kindOf (hd l))) = false → x.L = [])
  party : x.p = if fParty (kindOf (hd l)) then readP (hd (wd4 (kindOf (hd l)) l)) else noParty
  unt : x.unt = if fUntil (kindOf (hd l)) then numOf (hd (wd5 (kindOf (hd l)) l)) else 0
  now : x.now = if fNow (kindOf (hd l)) then numOf (hd (wd6 (kindOf (hd l)) l)) else 0
/-- The operation at hand in its box, beside the box of results, its form's and the words'. -/
structure OSt (w wx : World) (b rb ob fb : Nat) (k : Nat) (x : OpR) (L : List ByteArray) : Prop where
  r : wx.heap[rb]? = some (.cells #[.int .i64 0, .string ⟨#[]⟩, .int .i64 0, .slice none 0 0, .int .i64 0, .int .i64 0, .int .i64 0, .int .i64 0, .bool false, .int .i64 0, .int .i64 0, .int .i64 0] 27 (0, 0))
  o : wx.heap[ob]? = some (.cells x.cs 27 (0, 0))
  f : wx.heap[fb]? = some (.cells #[.bool (fOwner k), .bool (fName k), .int .i64 (fLegs k), .bool (fParty k), .bool (fUntil k), .bool (fNow k), .bool (fFrees k)] 69 (0, 0))
  ws : WSt wx b L
  ne : rb ≠ ob
  lo : w.heap.size ≤ rb ∧ w.heap.size ≤ ob ∧ w.heap.size ≤ fb
  leg : wx.ownsRow w.heap.size 3 1 x.v x.L.length (cellsI x.L)
  kept : Kept w wx (fun g => g = b)
section
variable {w wx wy : World} {b rb ob fb k : Nat} {x : OpR} {L L' : List ByteArray}
theorem OSt.below (h : OSt w wx b rb ob fb k x L) (hb : Below wx.heap.size wx wy) : OSt w wy b rb ob fb k x L :=
  ⟨blk_below h.r hb, blk_below h.o hb, blk_below h.f hb, h.ws.below hb, h.ne, h.lo, own_below hb h.leg, h.kept.trans (Kept.of_below hb)⟩
theorem words_ne {w : World} {b g t : Nat} {L : List ByteArray} {cs : Array Value} (h : WSt w b L) (hg : w.heap[g]? = some (.cells cs t (0, 0))) (ht : t ≠ 94) : ¬ g = b := by
  rintro rfl
  obtain ⟨_, _, h1, _⟩ := h
  rw [hg] at h1
  simp only [Option.some.injEq, Obj.cells.injEq] at h1
  exact ht h1.2.1
theorem OSt.words (h : OSt w wx b rb ob fb k x L) (hW : WSt wy b L') (hk : Kept wx wy (fun g => g = b)) : OSt w wy b rb ob fb k x L' := by
  obtain ⟨_, _, h1, _⟩ := id h.ws
  exact ⟨hk.blk h.r (words_ne h.ws h.r (by decide)), hk.blk h.o (words_ne h.ws h.o (by decide)), hk.blk h.f (words_ne h.ws h.f (by decide)), hW, h.ne, h.lo, hk.own h.leg (own_notT h.leg h1 (by decide)), h.kept.trans hk⟩
theorem OSt.store (h : OSt w wx b rb ob fb k x L) (i : Nat) (u : Value) (y : OpR) (hy : y.cs = x.cs.setIfInBounds i u) (hl : wx.ownsRow w.heap.size 3 1 y.v y.L.length (cellsI y.L)) : OSt w (wx.setCell ⟨ob, i, none⟩ u) b rb ob fb k y L := by
  have hk : Kept wx (wx.setCell ⟨ob, i, none⟩ u) (fun g => g = ob) := (Kept.refl wx (fun g => g = ob)).set (a := ⟨ob, i, none⟩) rfl u
  have hfo : ¬ fb = ob := by
    rintro rfl
    have h1 := h.f
    rw [h.o] at h1
    simp only [Option.some.injEq, Obj.cells.injEq] at h1
    exact absurd h1.2.1 (by decide)
  refine ⟨hk.blk h.r h.ne, ?_, hk.blk h.f hfo, ?_, h.ne, h.lo, hk.own hl (own_notT hl h.o (by decide)), ?_⟩
  · rw [hy]
    exact blk_set h.o i u
  · refine h.ws.kept hk (fun e => words_ne h.ws h.o (by decide) e.symm) (fun g cur hg e => ?_)
    have e : g = ob := e
    rw [e, h.o] at hg
    simp only [Option.some.injEq, Obj.cells.injEq] at hg
    exact absurd hg.2.1 (by decide)
  · refine ⟨h.kept.os, h.kept.tape, h.kept.output, by rw [World.size_setCell]; exact h.kept.size, fun g hg hn => ?_⟩
    rw [hk.block g (by have := h.kept.size; omega) (fun e => by have e : g = ob := e; have := h.lo.2.1; omega)]
    exact h.kept.block g hg hn
end

theorem opDone {w wx z : World} {b rb ob fb k : Nat} {x : OpR} {L : List ByteArray} (h : OSt w wx b rb ob fb k x L) (hk : Kept wx z (fun g => g = rb)) : z.ownsRow w.heap.size 3 1 x.v x.L.length (cellsI x.L) ∧ Kept w z (fun g => g = b) := by
  refine ⟨hk.own h.leg (own_notT h.leg h.r (by decide)), ⟨hk.os.trans h.kept.os, hk.tape.trans h.kept.tape, hk.output.trans h.kept.output, Nat.le_trans h.kept.size hk.size, fun g hg hn => ?_⟩⟩
  rw [hk.block g (by have := h.kept.size; omega) (fun e => by have e : g = rb := e; have := h.lo.1; omega)]
  exact h.kept.block g hg hn

set_option maxHeartbeats 6400000 in
set_option maxRecDepth 100000 in
theorem opIn_any (b : Nat) (l : List ByteArray) (w : World) (hl : ∀ q, q ∈ l → q.size ≤ 1048576) (h : WSt w b l) (hP : PowAt w) (hF : FormsAt w) (hW : WordsAt w) (hb1 : 4 ≠ b) (hb2 : 0 ≠ b) (hb3 : 1 ≠ b) :
    Calls Tryz.prog 21 #[.pointer (some ⟨b, 0, none⟩)] w fun e w' => ∃ x : OpR, e = .returned (.agg x.cs) ∧ w'.ownsRow w.heap.size 3 1 x.v x.L.length (cellsI x.L) ∧ Hid (OpRead l x) ∧ Kept w w' (fun g => g = b) := by
  have HPB : Hid (∀ wx, Kept w wx (fun g => g = b) → PowAt wx) := fun wx hk => pow_kept (S := fun g => g = b) hP hk hb1
  have HWB : Hid (∀ wx, Kept w wx (fun g => g = b) → WordsAt wx) := fun wx hk j hj => by
    rw [← hW j hj]
    exact World.cell?_of_block (hk.block _ hW.lt hb3)
  have HFB : Hid (∀ wx, Kept w wx (fun g => g = b) → FormsAt wx) := fun wx hk => by
    have e := hk.block _ hF.lt hb2
    intro j hj
    obtain ⟨h0, h1, h2, h3, h4, h5, h6⟩ := hF j hj
    exact ⟨(World.cell?_of_block e).trans h0, (World.cell?_of_block e).trans h1, (World.cell?_of_block e).trans h2, (World.cell?_of_block e).trans h3, (World.cell?_of_block e).trans h4, (World.cell?_of_block e).trans h5, (World.cell?_of_block e).trans h6⟩
  have HSM : Hid (∀ L : List ByteArray, (∀ q, q ∈ L → q ∈ l) → (hd L).size ≤ 1048576) := fun L hL => by
    unfold hd
    cases L with
    | nil => exact Nat.zero_le _
    | cons q r => exact hl q (hL q (by simp))
  have hin1 : ∀ q, q ∈ wd1 l → q ∈ l := fun q hq => List.mem_of_mem_tail hq
  have hnx : ∀ (b : Bool) (L : List ByteArray), (∀ q, q ∈ L → q ∈ l) → ∀ q, q ∈ nx b L → q ∈ l := fun b L hL q hq => by
    unfold nx at hq
    split at hq
    · exact hL q (List.mem_of_mem_tail hq)
    · exact hL q hq
  have HIN : Hid ((∀ q, q ∈ wd1 l → q ∈ l) ∧ (∀ q, q ∈ wd2 (kindOf (hd l)) l → q ∈ l) ∧ (∀ q, q ∈ wd3 (kindOf (hd l)) l → q ∈ l) ∧ (∀ q, q ∈ wd4 (kindOf (hd l)) l → q ∈ l)) :=
    ⟨hin1, hnx _ _ hin1, hnx _ _ (hnx _ _ hin1), hnx _ _ (hnx _ _ (hnx _ _ hin1))⟩
  have hr := heap_alloc_new w (.cells #[.int .i64 0, .string ⟨#[]⟩, .int .i64 0, .slice none 0 0, .int .i64 0, .int .i64 0, .int .i64 0, .int .i64 0, .bool false, .int .i64 0, .int .i64 0, .int .i64 0] 27)
  have hb0 : Below w.heap.size w (w.alloc (.cells #[.int .i64 0, .string ⟨#[]⟩, .int .i64 0, .slice none 0 0, .int .i64 0, .int .i64 0, .int .i64 0, .int .i64 0, .bool false, .int .i64 0, .int .i64 0, .int .i64 0] 27)) := push (Below.refl _ _) _
  have HWS : Hid (WSt (w.alloc (.cells #[.int .i64 0, .string ⟨#[]⟩, .int .i64 0, .slice none 0 0, .int .i64 0, .int .i64 0, .int .i64 0, .int .i64 0, .bool false, .int .i64 0, .int .i64 0, .int .i64 0] 27)) b l) := h.below hb0
  clear h hP hF hW hin1 hnx hl
  go_enter Tryz.func21, Tryz.ntmps21
  go_upto_region 1 with fail
  generalize w.alloc (.cells #[.int .i64 0, .string ⟨#[]⟩, .int .i64 0, .slice none 0 0, .int .i64 0, .int .i64 0, .int .i64 0, .int .i64 0, .bool false, .int .i64 0, .int .i64 0, .int .i64 0] 27) = W at hr hb0 HWS ⊢
  have hKW : Kept w W (fun g => g = b) := Kept.of_below hb0
  go_wp2_with fail
  refine (next_hd b l _ HWS.out).mono ?_
  rintro e w2 ⟨rfl, HW2, hk2⟩
  have hrb : ¬ w.heap.size = b := words_ne HWS.out hr (by decide)
  have hr2 := hk2.blk hr hrb
  have hK2 := hKW.trans hk2
  clear hr hb0 HWS hKW hk2
  go_wp2_with fail
  refine (opKindOf_any (hd l) _ (HWB.out _ hK2)).mono ?_
  rintro e w3 ⟨rfl, hb⟩
  have hr3 := blk_below hr2 hb
  have hK3 := hK2.trans (Kept.of_below (S := fun g => g = b) hb)
  have HW3 : Hid (WSt w3 b (wd1 l)) := HW2.out.below hb
  have hk10 := kindOf_lt (hd l)
  have hlt3 := blk_lt hr3
  obtain ⟨k, hk⟩ : ∃ k, k = kindOf (hd l) := ⟨_, rfl⟩
  have HK : Hid (kindOf (hd l) = k) := hk.symm
  rw [← hk] at hk10 ⊢
  clear hr2 hb hK2 HW2 hk
  have b4 := heap_alloc_new w3 (.cells #[.int .i64 (k : Int), .string ⟨#[]⟩, .int .i64 0, .slice none 0 0, .int .i64 0, .int .i64 0, .int .i64 0, .int .i64 0, .bool false, .int .i64 0, .int .i64 0, .int .i64 0] 27)
  have p4 : Below w3.heap.size w3 (w3.alloc (.cells #[.int .i64 (k : Int), .string ⟨#[]⟩, .int .i64 0, .slice none 0 0, .int .i64 0, .int .i64 0, .int .i64 0, .int .i64 0, .bool false, .int .i64 0, .int .i64 0, .int .i64 0] 27)) := push (Below.refl _ _) _
  go_upto_region 2 with fail
  generalize w3.alloc (.cells #[.int .i64 (k : Int), .string ⟨#[]⟩, .int .i64 0, .slice none 0 0, .int .i64 0, .int .i64 0, .int .i64 0, .int .i64 0, .bool false, .int .i64 0, .int .i64 0, .int .i64 0] 27) = W4 at b4 p4 ⊢
  have hK4 := hK3.trans (Kept.of_below (S := fun g => g = b) p4)
  have hr4 := blk_below hr3 p4
  have HW4 : Hid (WSt W4 b (wd1 l)) := HW3.out.below p4
  have hF4 := HFB.out W4 hK4
  have t0 : W4.cell? ⟨0, k * 7, none⟩ = some (.bool (fOwner k)) := (hF4 k (by omega)).1
  have t1 : W4.cell? ⟨0, k * 7 + 1, none⟩ = some (.bool (fName k)) := (hF4 k (by omega)).2.1
  have t2 : W4.cell? ⟨0, k * 7 + 2, none⟩ = some (.int .i64 (fLegs k)) := (hF4 k (by omega)).2.2.1
  have t3 : W4.cell? ⟨0, k * 7 + 3, none⟩ = some (.bool (fParty k)) := (hF4 k (by omega)).2.2.2.1
  have t4 : W4.cell? ⟨0, k * 7 + 4, none⟩ = some (.bool (fUntil k)) := (hF4 k (by omega)).2.2.2.2.1
  have t5 : W4.cell? ⟨0, k * 7 + 5, none⟩ = some (.bool (fNow k)) := (hF4 k (by omega)).2.2.2.2.2.1
  have t6 : W4.cell? ⟨0, k * 7 + 6, none⟩ = some (.bool (fFrees k)) := (hF4 k (by omega)).2.2.2.2.2.2
  have y0 := blk_cell b4 0 _ rfl
  have hk0 : (0 : Int) ≤ (k : Int) := by omega
  have hk1 : (k : Int) < 10 := by omega
  have b5 := heap_alloc_new W4 (.cells #[.bool (fOwner k), .bool (fName k), .int .i64 (fLegs k), .bool (fParty k), .bool (fUntil k), .bool (fNow k), .bool (fFrees k)] 69)
  have p5 : Below W4.heap.size W4 (W4.alloc (.cells #[.bool (fOwner k), .bool (fName k), .int .i64 (fLegs k), .bool (fParty k), .bool (fUntil k), .bool (fNow k), .bool (fFrees k)] 69)) := push (Below.refl _ _) _
  have hob := blk_lt b4
  have HS0 : Hid (OSt w (W4.alloc (.cells #[.bool (fOwner k), .bool (fName k), .int .i64 (fLegs k), .bool (fParty k), .bool (fUntil k), .bool (fNow k), .bool (fFrees k)] 69)) b w.heap.size w3.heap.size W4.heap.size k ⟨k, ⟨#[]⟩, 0, .slice none 0 0, [], noParty, 0, 0⟩ (wd1 l)) :=
    ⟨blk_below hr4 p5, blk_below b4 p5, b5, HW4.out.below p5, by omega, ⟨Nat.le_refl _, by omega, by have := hK4.size; omega⟩, World.ownsRow_nil _ _ _ _, hK4.trans (Kept.of_below p5)⟩
  clear hr3 hK3 HW3 hr4 b4 p4 b5 p5 HW4 hF4
  go_upto_region 3 with fail
  generalize W4.alloc (.cells #[.bool (fOwner k), .bool (fName k), .int .i64 (fLegs k), .bool (fParty k), .bool (fUntil k), .bool (fNow k), .bool (fFrees k)] 69) = W5 at HS0 ⊢
  generalize W4.heap.size = fb at HS0 ⊢
  generalize w3.heap.size = ob at HS0 ⊢
  clear t0 t1 t2 t3 t4 t5 t6 y0 hk0 hk1 hK4 hob hlt3
  clear W4 w3 w2 W
  generalize w.heap.size = rb at HS0 ⊢
  have f1 := blk_cell HS0.out.f 1 _ rfl
  obtain ⟨q1, hq1⟩ : ∃ q, q = fName k := ⟨_, rfl⟩
  have HQ1 : Hid (fName k = q1) := hq1.symm
  rw [← hq1] at f1
  clear hq1
  go_upto_if 14 with fail
  go_cut [] (fun wx => ∃ z1, Hid (OSt w wx b rb ob fb k ⟨(k : Int), ⟨#[]⟩, z1, (.slice none 0 0), [], noParty, 0, 0⟩ (wd2 k l) ∧ (z1 = if fName k then numOf (hd (wd1 l)) else 0)))
  case first =>
    clear f1
    cases q1 with
    | false =>
      go_wp2
      go_meet
      exact ⟨0, (show OSt w _ b rb ob fb k ⟨(k : Int), ⟨#[]⟩, 0, (.slice none 0 0), [], noParty, 0, 0⟩ (wd2 k l) from by unfold wd2 nx; rw [HQ1.out]; exact HS0.out), by rw [HQ1.out]; rfl⟩
    | true =>
      have EW : Hid (wd2 k l = (wd1 l).tail) := by show wd2 k l = (wd1 l).tail; unfold wd2 nx; rw [HQ1.out]; rfl
      go_wp2_with fail
      refine (number_hd b (wd1 l) _ HS0.out.ws (HPB.out _ HS0.out.kept) hb1).mono ?_
      rintro e w5 ⟨rfl, HW5, hk5⟩
      have H5 : Hid (OSt w w5 b rb ob fb k ⟨(k : Int), ⟨#[]⟩, 0, (.slice none 0 0), [], noParty, 0, 0⟩ (wd2 k l)) := HS0.out.words (by rw [EW.out]; exact HW5.out) hk5
      have o5 := H5.out.o
      have x5 := blk_cell o5 2 _ rfl
      have g5 := blk_free o5 2
      have H6 : Hid _ := H5.out.store 2 (.int .i64 (numOf (hd (wd1 l)))) ⟨(k : Int), ⟨#[]⟩, (numOf (hd (wd1 l))), (.slice none 0 0), [], noParty, 0, 0⟩ rfl H5.out.leg
      clear o5 H5
      go_wp2
      go_meet
      exact ⟨_, H6.out, by rw [HQ1.out]; rfl⟩
  case rest =>
  obtain ⟨z1, HC1⟩ := hcut
  have HS1 : Hid (OSt w wc b rb ob fb k ⟨(k : Int), ⟨#[]⟩, z1, (.slice none 0 0), [], noParty, 0, 0⟩ (wd2 k l)) := HC1.out.1
  have HE1 : Hid (z1 = if fName k then numOf (hd (wd1 l)) else 0) := HC1.out.2
  clear HC1 HS0 f1
  have f2 := blk_cell HS1.out.f 0 _ rfl
  obtain ⟨q2, hq2⟩ : ∃ q, q = fOwner k := ⟨_, rfl⟩
  have HQ2 : Hid (fOwner k = q2) := hq2.symm
  rw [← hq2] at f2
  clear hq2
  go_upto_if 19 with fail
  go_cut [] (fun wx => ∃ z2, Hid (OSt w wx b rb ob fb k ⟨(k : Int), z2, z1, (.slice none 0 0), [], noParty, 0, 0⟩ (wd3 k l) ∧ (z2 = if fOwner k then hd (wd2 k l) else ⟨#[]⟩)))
  case first =>
    clear f2
    cases q2 with
    | false =>
      go_wp2
      go_meet
      exact ⟨⟨#[]⟩, (show OSt w _ b rb ob fb k ⟨(k : Int), ⟨#[]⟩, z1, (.slice none 0 0), [], noParty, 0, 0⟩ (wd3 k l) from by unfold wd3 nx; rw [HQ2.out]; exact HS1.out), by rw [HQ2.out]; rfl⟩
    | true =>
      have EW : Hid (wd3 k l = (wd2 k l).tail) := by show wd3 k l = (wd2 k l).tail; unfold wd3 nx; rw [HQ2.out]; rfl
      go_wp2_with fail
      refine (name_hd b (wd2 k l) _ HS1.out.ws (HSM.out (wd2 k l) (by rw [← HK.out]; exact HIN.out.2.1))).mono ?_
      rintro e w5 ⟨rfl, HW5, hk5⟩
      have H5 : Hid (OSt w w5 b rb ob fb k ⟨(k : Int), ⟨#[]⟩, z1, (.slice none 0 0), [], noParty, 0, 0⟩ (wd3 k l)) := HS1.out.words (by rw [EW.out]; exact HW5.out) hk5
      have o5 := H5.out.o
      have x5 := blk_cell o5 1 _ rfl
      have g5 := blk_free o5 1
      have H6 : Hid _ := H5.out.store 1 (.string (hd (wd2 k l))) ⟨(k : Int), (hd (wd2 k l)), z1, (.slice none 0 0), [], noParty, 0, 0⟩ rfl H5.out.leg
      clear o5 H5
      go_wp2
      go_meet
      exact ⟨_, H6.out, by rw [HQ2.out]; rfl⟩
  case rest =>
  obtain ⟨z2, HC2⟩ := hcut
  have HS2 : Hid (OSt w wc b rb ob fb k ⟨(k : Int), z2, z1, (.slice none 0 0), [], noParty, 0, 0⟩ (wd3 k l)) := HC2.out.1
  have HE2 : Hid (z2 = if fOwner k then hd (wd2 k l) else ⟨#[]⟩) := HC2.out.2
  clear HC2 HS1 f2
  have f3 := blk_cell HS2.out.f 2 _ rfl
  obtain ⟨q3, hq3⟩ : ∃ q, q = decide (0 < fLegs k) := ⟨_, rfl⟩
  have HQ3 : Hid (decide (0 < fLegs k) = q3) := hq3.symm
  have hq3' : decide ((0 : Int) < fLegs k) = q3 := hq3.symm
  clear hq3
  go_upto_if 25 with fail
  go_cut [] (fun wx => ∃ z3 y3, Hid (OSt w wx b rb ob fb k ⟨(k : Int), z2, z1, z3, y3, noParty, 0, 0⟩ (wd4 k l) ∧ ((decide (0 < fLegs k) = true → LegsRead (hd (wd3 k l)) y3) ∧ (decide (0 < fLegs k) = false → y3 = []))))
  case first =>
    clear f3
    cases q3 with
    | false =>
      go_wp2
      go_meet
      exact ⟨_, [], (show OSt w _ b rb ob fb k ⟨(k : Int), z2, z1, (.slice none 0 0), [], noParty, 0, 0⟩ (wd4 k l) from by unfold wd4 nx; rw [HQ3.out]; exact HS2.out), fun h => (by rw [HQ3.out] at h; cases h), fun _ => rfl⟩
    | true =>
      have EW : Hid (wd4 k l = (wd3 k l).tail) := by show wd4 k l = (wd3 k l).tail; unfold wd4 nx; rw [HQ3.out]; rfl
      go_wp2_with fail
      refine (next_hd b (wd3 k l) _ HS2.out.ws).mono ?_
      rintro e w4 ⟨rfl, HW4, hk4⟩
      have H4 : Hid (OSt w w4 b rb ob fb k ⟨(k : Int), z2, z1, (.slice none 0 0), [], noParty, 0, 0⟩ (wd4 k l)) := HS2.out.words (by rw [EW.out]; exact HW4.out) hk4
      clear HW4 hk4
      go_wp2_with fail
      refine (listIn_any (hd (wd3 k l)) _ (HSM.out (wd3 k l) (by rw [← HK.out]; exact HIN.out.2.2.1)) (HPB.out _ H4.out.kept)).mono ?_
      rintro e w5 ⟨vl, yl, rfl, hol, HLR, hb5⟩
      have H5 : Hid (OSt w w5 b rb ob fb k ⟨(k : Int), z2, z1, (.slice none 0 0), [], noParty, 0, 0⟩ (wd4 k l)) := H4.out.below hb5
      have HOL : Hid (w5.ownsRow w.heap.size 3 1 vl yl.length (cellsI yl)) := own_base hol H4.out.kept.size
      obtain ⟨vla, vlc, rfl, _⟩ := own_form hol
      clear H4 hol hb5
      have o5 := H5.out.o
      have x5 := blk_cell o5 3 _ rfl
      have g5 := blk_free o5 3
      have H6 : Hid _ := H5.out.store 3 (.slice vla yl.length vlc) ⟨(k : Int), z2, z1, (.slice vla yl.length vlc), yl, noParty, 0, 0⟩ rfl HOL.out
      clear o5 H5
      go_wp2
      go_meet
      exact ⟨_, yl, H6.out, fun _ => HLR.out, fun h => (by rw [HQ3.out] at h; cases h)⟩
  case rest =>
  obtain ⟨z3, y3, HC3⟩ := hcut
  have HS3 : Hid (OSt w wc b rb ob fb k ⟨(k : Int), z2, z1, z3, y3, noParty, 0, 0⟩ (wd4 k l)) := HC3.out.1
  have HE3 : Hid ((decide (0 < fLegs k) = true → LegsRead (hd (wd3 k l)) y3) ∧ (decide (0 < fLegs k) = false → y3 = [])) := HC3.out.2
  clear HC3 HS2 f3 hq3'
  have f4 := blk_cell HS3.out.f 3 _ rfl
  obtain ⟨q4, hq4⟩ : ∃ q, q = fParty k := ⟨_, rfl⟩
  have HQ4 : Hid (fParty k = q4) := hq4.symm
  rw [← hq4] at f4
  clear hq4
  go_upto_if 31 with fail
  go_cut [] (fun wx => ∃ z4, Hid (OSt w wx b rb ob fb k ⟨(k : Int), z2, z1, z3, y3, z4, 0, 0⟩ (wd5 k l) ∧ (z4 = if fParty k then readP (hd (wd4 k l)) else noParty)))
  case first =>
    clear f4
    cases q4 with
    | false =>
      go_wp2
      go_meet
      exact ⟨noParty, (show OSt w _ b rb ob fb k ⟨(k : Int), z2, z1, z3, y3, noParty, 0, 0⟩ (wd5 k l) from by unfold wd5 nx; rw [HQ4.out]; exact HS3.out), by rw [HQ4.out]; rfl⟩
    | true =>
      have EW : Hid (wd5 k l = (wd4 k l).tail) := by show wd5 k l = (wd4 k l).tail; unfold wd5 nx; rw [HQ4.out]; rfl
      go_wp2_with fail
      refine (next_hd b (wd4 k l) _ HS3.out.ws).mono ?_
      rintro e w4 ⟨rfl, HW4, hk4⟩
      have H4 : Hid (OSt w w4 b rb ob fb k ⟨(k : Int), z2, z1, z3, y3, noParty, 0, 0⟩ (wd5 k l)) := HS3.out.words (by rw [EW.out]; exact HW4.out) hk4
      clear HW4 hk4
      go_wp2_with fail
      refine (partyIn_any (hd (wd4 k l)) _ (by have := HSM.out (wd4 k l) (by rw [← HK.out]; exact HIN.out.2.2.2); omega) (HPB.out _ H4.out.kept)).mono ?_
      rintro e w5 ⟨rfl, hb5⟩
      have H5 : Hid (OSt w w5 b rb ob fb k ⟨(k : Int), z2, z1, z3, y3, noParty, 0, 0⟩ (wd5 k l)) := H4.out.below hb5
      clear H4 hb5
      have o5 := H5.out.o
      have x0 := blk_cell o5 4 _ rfl
      have g0 := blk_free o5 4
      have x1 := blk_cell o5 5 _ rfl
      have g1 := blk_free o5 5
      have x2 := blk_cell o5 6 _ rfl
      have g2 := blk_free o5 6
      have x3 := blk_cell o5 7 _ rfl
      have g3 := blk_free o5 7
      have x4 := blk_cell o5 8 _ rfl
      have g4 := blk_free o5 8
      have x5 := blk_cell o5 9 _ rfl
      have g5 := blk_free o5 9
      generalize hz : readP (hd (wd4 k l)) = z
      have K0 := H5.out.store 4 (.int .i64 z.pe) ⟨(k : Int), z2, z1, z3, y3, ⟨z.pe, 0, 0, 0, false, 0⟩, 0, 0⟩ rfl H5.out.leg
      have K1 := K0.store 5 (.int .i64 z.len) ⟨(k : Int), z2, z1, z3, y3, ⟨z.pe, z.len, 0, 0, false, 0⟩, 0, 0⟩ rfl K0.leg
      have K2 := K1.store 6 (.int .i64 z.hei) ⟨(k : Int), z2, z1, z3, y3, ⟨z.pe, z.len, z.hei, 0, false, 0⟩, 0, 0⟩ rfl K1.leg
      have K3 := K2.store 7 (.int .i64 z.cl) ⟨(k : Int), z2, z1, z3, y3, ⟨z.pe, z.len, z.hei, z.cl, false, 0⟩, 0, 0⟩ rfl K2.leg
      have K4 := K3.store 8 (.bool z.all) ⟨(k : Int), z2, z1, z3, y3, ⟨z.pe, z.len, z.hei, z.cl, z.all, 0⟩, 0, 0⟩ rfl K3.leg
      have K5 := K4.store 9 (.int .i64 z.be) ⟨(k : Int), z2, z1, z3, y3, ⟨z.pe, z.len, z.hei, z.cl, z.all, z.be⟩, 0, 0⟩ rfl K4.leg
      have H6 : Hid _ := K5
      clear K0 K1 K2 K3 K4 K5 o5 H5
      go_wp2
      go_meet
      exact ⟨z, H6.out, by rw [HQ4.out, hz]; rfl⟩
  case rest =>
  obtain ⟨z4, HC4⟩ := hcut
  have HS4 : Hid (OSt w wc b rb ob fb k ⟨(k : Int), z2, z1, z3, y3, z4, 0, 0⟩ (wd5 k l)) := HC4.out.1
  have HE4 : Hid (z4 = if fParty k then readP (hd (wd4 k l)) else noParty) := HC4.out.2
  clear HC4 HS3 f4
  have f5 := blk_cell HS4.out.f 4 _ rfl
  obtain ⟨q5, hq5⟩ : ∃ q, q = fUntil k := ⟨_, rfl⟩
  have HQ5 : Hid (fUntil k = q5) := hq5.symm
  rw [← hq5] at f5
  clear hq5
  go_upto_if 37 with fail
  go_cut [] (fun wx => ∃ z5, Hid (OSt w wx b rb ob fb k ⟨(k : Int), z2, z1, z3, y3, z4, z5, 0⟩ (wd6 k l) ∧ (z5 = if fUntil k then numOf (hd (wd5 k l)) else 0)))
  case first =>
    clear f5
    cases q5 with
    | false =>
      go_wp2
      go_meet
      exact ⟨0, (show OSt w _ b rb ob fb k ⟨(k : Int), z2, z1, z3, y3, z4, 0, 0⟩ (wd6 k l) from by unfold wd6 nx; rw [HQ5.out]; exact HS4.out), by rw [HQ5.out]; rfl⟩
    | true =>
      have EW : Hid (wd6 k l = (wd5 k l).tail) := by show wd6 k l = (wd5 k l).tail; unfold wd6 nx; rw [HQ5.out]; rfl
      go_wp2_with fail
      refine (number_hd b (wd5 k l) _ HS4.out.ws (HPB.out _ HS4.out.kept) hb1).mono ?_
      rintro e w5 ⟨rfl, HW5, hk5⟩
      have H5 : Hid (OSt w w5 b rb ob fb k ⟨(k : Int), z2, z1, z3, y3, z4, 0, 0⟩ (wd6 k l)) := HS4.out.words (by rw [EW.out]; exact HW5.out) hk5
      have o5 := H5.out.o
      have x5 := blk_cell o5 10 _ rfl
      have g5 := blk_free o5 10
      have H6 : Hid _ := H5.out.store 10 (.int .i64 (numOf (hd (wd5 k l)))) ⟨(k : Int), z2, z1, z3, y3, z4, (numOf (hd (wd5 k l))), 0⟩ rfl H5.out.leg
      clear o5 H5
      go_wp2
      go_meet
      exact ⟨_, H6.out, by rw [HQ5.out]; rfl⟩
  case rest =>
  obtain ⟨z5, HC5⟩ := hcut
  have HS5 : Hid (OSt w wc b rb ob fb k ⟨(k : Int), z2, z1, z3, y3, z4, z5, 0⟩ (wd6 k l)) := HC5.out.1
  have HE5 : Hid (z5 = if fUntil k then numOf (hd (wd5 k l)) else 0) := HC5.out.2
  clear HC5 HS4 f5
  have f6 := blk_cell HS5.out.f 5 _ rfl
  obtain ⟨q6, hq6⟩ : ∃ q, q = fNow k := ⟨_, rfl⟩
  have HQ6 : Hid (fNow k = q6) := hq6.symm
  rw [← hq6] at f6
  clear hq6
  go_upto_if 42 with fail
  go_cut [] (fun wx => ∃ z6, Hid (OSt w wx b rb ob fb k ⟨(k : Int), z2, z1, z3, y3, z4, z5, z6⟩ (wd7 k l) ∧ (z6 = if fNow k then numOf (hd (wd6 k l)) else 0)))
  case first =>
    clear f6
    cases q6 with
    | false =>
      go_wp2
      go_meet
      exact ⟨0, (show OSt w _ b rb ob fb k ⟨(k : Int), z2, z1, z3, y3, z4, z5, 0⟩ (wd7 k l) from by unfold wd7 nx; rw [HQ6.out]; exact HS5.out), by rw [HQ6.out]; rfl⟩
    | true =>
      have EW : Hid (wd7 k l = (wd6 k l).tail) := by show wd7 k l = (wd6 k l).tail; unfold wd7 nx; rw [HQ6.out]; rfl
      go_wp2_with fail
      refine (number_hd b (wd6 k l) _ HS5.out.ws (HPB.out _ HS5.out.kept) hb1).mono ?_
      rintro e w5 ⟨rfl, HW5, hk5⟩
      have H5 : Hid (OSt w w5 b rb ob fb k ⟨(k : Int), z2, z1, z3, y3, z4, z5, 0⟩ (wd7 k l)) := HS5.out.words (by rw [EW.out]; exact HW5.out) hk5
      have o5 := H5.out.o
      have x5 := blk_cell o5 11 _ rfl
      have g5 := blk_free o5 11
      have H6 : Hid _ := H5.out.store 11 (.int .i64 (numOf (hd (wd6 k l)))) ⟨(k : Int), z2, z1, z3, y3, z4, z5, (numOf (hd (wd6 k l)))⟩ rfl H5.out.leg
      clear o5 H5
      go_wp2
      go_meet
      exact ⟨_, H6.out, by rw [HQ6.out]; rfl⟩
  case rest =>
  obtain ⟨z6, HC6⟩ := hcut
  have HS6 : Hid (OSt w wc b rb ob fb k ⟨(k : Int), z2, z1, z3, y3, z4, z5, z6⟩ (wd7 k l)) := HC6.out.1
  have HE6 : Hid (z6 = if fNow k then numOf (hd (wd6 k l)) else 0) := HC6.out.2
  clear HC6 HS5 f6
  have HRD : Hid (OpRead l ⟨(k : Int), z2, z1, z3, y3, z4, z5, z6⟩) := by
    constructor
    · rw [HK.out]
    · rw [HK.out]; exact HE1.out
    · rw [HK.out]; exact HE2.out
    · rw [HK.out]; exact HE3.out
    · rw [HK.out]; exact HE4.out
    · rw [HK.out]; exact HE5.out
    · rw [HK.out]; exact HE6.out
  obtain ⟨va, vc, rfl, _⟩ := own_form (show wc.ownsRow w.heap.size 3 1 z3 y3.length (cellsI y3) from HS6.out.leg)
  have bo : wc.heap[ob]? = some (.cells #[.int .i64 (k : Int), .string z2, .int .i64 z1, .slice va y3.length vc, .int .i64 z4.pe, .int .i64 z4.len, .int .i64 z4.hei, .int .i64 z4.cl, .bool z4.all, .int .i64 z4.be, .int .i64 z5, .int .i64 z6] 27 (0, 0)) := HS6.out.o
  have br := HS6.out.r
  have p0 := blk_cell bo 0 _ rfl
  have r0 := blk_cell br 0 _ rfl
  have s0 := blk_free br 0
  have p1 := blk_cell bo 1 _ rfl
  have r1 := blk_cell br 1 _ rfl
  have s1 := blk_free br 1
  have p2 := blk_cell bo 2 _ rfl
  have r2 := blk_cell br 2 _ rfl
  have s2 := blk_free br 2
  have p3 := blk_cell bo 3 _ rfl
  have r3 := blk_cell br 3 _ rfl
  have s3 := blk_free br 3
  have p4 := blk_cell bo 4 _ rfl
  have r4 := blk_cell br 4 _ rfl
  have s4 := blk_free br 4
  have p5 := blk_cell bo 5 _ rfl
  have r5 := blk_cell br 5 _ rfl
  have s5 := blk_free br 5
  have p6 := blk_cell bo 6 _ rfl
  have r6 := blk_cell br 6 _ rfl
  have s6 := blk_free br 6
  have p7 := blk_cell bo 7 _ rfl
  have r7 := blk_cell br 7 _ rfl
  have s7 := blk_free br 7
  have p8 := blk_cell bo 8 _ rfl
  have r8 := blk_cell br 8 _ rfl
  have s8 := blk_free br 8
  have p9 := blk_cell bo 9 _ rfl
  have r9 := blk_cell br 9 _ rfl
  have s9 := blk_free br 9
  have p10 := blk_cell bo 10 _ rfl
  have r10 := blk_cell br 10 _ rfl
  have s10 := blk_free br 10
  have p11 := blk_cell bo 11 _ rfl
  have r11 := blk_cell br 11 _ rfl
  have s11 := blk_free br 11
  have rF := box_12 br (.int .i64 (k : Int)) (.string z2) (.int .i64 z1) (.slice va y3.length vc) (.int .i64 z4.pe) (.int .i64 z4.len) (.int .i64 z4.hei) (.int .i64 z4.cl) (.bool z4.all) (.int .i64 z4.be) (.int .i64 z5) (.int .i64 z6)
  have kF := keep_12 wc rb (.int .i64 (k : Int)) (.string z2) (.int .i64 z1) (.slice va y3.length vc) (.int .i64 z4.pe) (.int .i64 z4.len) (.int .i64 z4.hei) (.int .i64 z4.cl) (.bool z4.all) (.int .i64 z4.be) (.int .i64 z5) (.int .i64 z6)
  have HF : Hid _ := opDone HS6.out kF
  clear bo br kF HE1 HE2 HE3 HE4 HE5 HE6
  go_wp2
  have u0' := blk_cell rF 0 _ rfl
  have u1' := blk_cell rF 1 _ rfl
  have u2' := blk_cell rF 2 _ rfl
  have u3' := blk_cell rF 3 _ rfl
  have u4' := blk_cell rF 4 _ rfl
  have u5' := blk_cell rF 5 _ rfl
  have u6' := blk_cell rF 6 _ rfl
  have u7' := blk_cell rF 7 _ rfl
  have u8' := blk_cell rF 8 _ rfl
  have u9' := blk_cell rF 9 _ rfl
  have u10' := blk_cell rF 10 _ rfl
  have u11' := blk_cell rF 11 _ rfl
  refine bodyPost_ret (v := .agg #[.int .i64 (k : Int), .string z2, .int .i64 z1, .slice va y3.length vc, .int .i64 z4.pe, .int .i64 z4.len, .int .i64 z4.hei, .int .i64 z4.cl, .bool z4.all, .int .i64 z4.be, .int .i64 z5, .int .i64 z6]) (by simp [results, Tryz.results21, go_sem, u0', u1', u2', u3', u4', u5', u6', u7', u8', u9', u10', u11']) rfl ?_
  exact ⟨OpR.mk (k : Int) z2 z1 (.slice va y3.length vc) y3 z4 z5 z6, rfl, HF.out.1, HRD.out, HF.out.2⟩

end Go.Proofs.YtfallpinmhbemaaGreatDoor

namespace Go.Proofs.YtfallpinmhbemaaGreatDoor
open Go.RowKit

theorem joinL_le (p : UInt8) : ∀ (l : List (List UInt8)) (q : List UInt8), q ∈ l → q.length ≤ (Lib.join l [p]).length
  | [], _, h => by cases h
  | [a], q, h => by simp at h; rw [Lib.join_one, h]; exact Nat.le_refl _
  | a :: b :: r, q, h => by
    rw [join_two]
    rcases List.mem_cons.1 h with h | h
    · rw [h]; simp
    · have := joinL_le p (b :: r) q h
      simp
      omega
theorem parts_le {p : UInt8} {s : ByteArray} {l : List ByteArray} (h : Parts p s l) : ∀ q, q ∈ l → q.size ≤ s.size := fun q hq => by
  have h1 := joinL_le p (l.map (·.data.toList)) q.data.toList (List.mem_map.2 ⟨q, hq, rfl⟩)
  rw [h.list.2.1] at h1
  simpa using h1
/-- The same operation, its legs up to their number. -/
def SameOp (x y : OpD) : Prop := x.kind = y.kind ∧ x.own = y.own ∧ x.name = y.name ∧ x.lgn = y.lgn ∧ (∀ i, i < y.lgn → x.lg i = y.lg i) ∧ x.p = y.p ∧ x.unt = y.unt ∧ x.now = y.now
/-- No sign of these in a text. -/
def Free (p : UInt8) (s : ByteArray) : Prop := p ∉ s.data.toList
theorem free_num {p : UInt8} (hp : ¬ Digit p) {m : Int} (h : 0 ≤ m) : Free p (numT m) := fun hm => by
  rw [numT_list h] at hm
  exact hp (dec_digits _ p hm)
theorem free_app {p : UInt8} {a b : ByteArray} (ha : Free p a) (hb : Free p b) : Free p (a ++ b) := by
  unfold Free at *
  simp [ha, hb]
theorem free_one {p q : UInt8} (h : p ≠ q) : Free p ⟨#[q]⟩ := by
  unfold Free
  simpa using h
theorem free_nil (p : UInt8) : Free p ⟨#[]⟩ := by
  unfold Free
  simp
theorem free_name {p : UInt8} {s : ByteArray} (h : IsName s) (hp : ¬ Letter (p.toNat : Int)) : Free p s := fun hm => by
  obtain ⟨i, hi⟩ := List.mem_iff_getElem?.1 hm
  have hlt : i < s.size := by
    rcases Nat.lt_or_ge i s.data.toList.length with h' | h'
    · rwa [Array.length_toList] at h'
    · rw [List.getElem?_eq_none h'] at hi; cases hi
  rw [get_at hlt] at hi
  have h1 := h.2.2 i hlt
  rw [← byteAt_is s i hlt] at h1
  have e : s[i]'hlt = p := by simpa using hi
  rw [e] at h1
  exact hp h1
theorem free_join {p q : UInt8} (hpq : p ≠ q) : ∀ (l : List ByteArray), (∀ x, x ∈ l → Free p x) → Free p (joinT (oneT q) l) := by
  intro l hl
  have key : ∀ m : List (List UInt8), (∀ x, x ∈ m → p ∉ x) → p ∉ Lib.join m [q] := by
    intro m
    match m with
    | [] => intro _; simp [Lib.join_nil]
    | [a] => intro h; rw [Lib.join_one]; exact h a (by simp)
    | a :: b :: r =>
      intro h
      have ih := fun h' => (show p ∉ Lib.join (b :: r) [q] from by
        have : ∀ k : List (List UInt8), k.length ≤ (b :: r).length → (∀ x, x ∈ k → p ∉ x) → p ∉ Lib.join k [q] := by
          intro k
          induction k with
          | nil => intro _ _; simp [Lib.join_nil]
          | cons c t ih =>
            intro hlen hx
            cases t with
            | nil => rw [Lib.join_one]; exact hx c (by simp)
            | cons d u =>
              rw [join_two]
              have h1 := ih (by simp at hlen ⊢; omega) (fun x hx' => hx x (by simp at hx' ⊢; exact .inr hx'))
              have h2 := hx c (by simp)
              simp [h1, h2, hpq]
        exact this (b :: r) (Nat.le_refl _) h')
      rw [join_two]
      have h2 := h a (by simp)
      have h3 := ih (fun x hx => h x (by simp at hx ⊢; exact .inr hx))
      simp [h2, h3, hpq]
  have := key (l.map (·.data.toList)) (fun x hx => by
    obtain ⟨y, hy, rfl⟩ := List.mem_map.1 hx
    exact hl y hy)
  unfold Free joinT oneT
  simpa using this

end Go.Proofs.YtfallpinmhbemaaGreatDoor

namespace Go.Proofs.YtfallpinmhbemaaGreatDoor
open Go.RowKit

theorem cut_of {p : UInt8} {s a b : ByteArray} {f : Bool} (h : CutIs p s a b f) : cutA p s = a ∧ cutB p s = b ∧ cutF p s = f := cut_one (cut_is p s) h
theorem cut_free {p : UInt8} {s : ByteArray} (h : Free p s) : CutIs p s s ⟨#[]⟩ false := ⟨h, .inr ⟨rfl, rfl, rfl⟩⟩
theorem cut_at {p : UInt8} {s a b : ByteArray} (h : Free p a) (e : s = a ++ (⟨#[p]⟩ ++ b)) : CutIs p s a b true := ⟨h, .inl ⟨rfl, by rw [e]; simp⟩⟩
theorem not_digit {n : Nat} (h : n < 48 ∨ 57 < n) (hn : n < 256) : ¬ Digit (UInt8.ofNat n) := by
  unfold Digit
  have : (UInt8.ofNat n).toNat = n := by simp; omega
  rw [this]
  omega
theorem nd64 : ¬ Digit 64 := by unfold Digit; decide
theorem nd43 : ¬ Digit 43 := by unfold Digit; decide
theorem nd47 : ¬ Digit 47 := by unfold Digit; decide
theorem nd120 : ¬ Digit 120 := by unfold Digit; decide
theorem nd44 : ¬ Digit 44 := by unfold Digit; decide
theorem nd32 : ¬ Digit 32 := by unfold Digit; decide

theorem readP_back {p : Party} (hp : PartyOk p) : readP (partyT p) = p := by
  obtain ⟨pe, len, hei, cl, all, be⟩ := p
  have hk := hp
  unfold PartyOk CarOk CabOk In at hp
  dsimp only at hp
  have b0 : 0 ≤ pe ∧ pe ≤ 99999 := by omega
  have b1 : 0 ≤ len ∧ len ≤ 99999 := by omega
  have b2 : 0 ≤ hei ∧ hei ≤ 99999 := by omega
  have b3 : 0 ≤ cl ∧ cl ≤ 99999 := by omega
  have b4 : 0 ≤ be ∧ be ≤ 99999 := by omega
  have ncar : ∀ q : UInt8, ¬ Digit q → q ≠ 43 → q ≠ 47 → Free q (carT ⟨pe, len, hei, cl, all, be⟩) := fun q h1 h2 h3 => by
    unfold carT
    split
    · exact free_nil q
    · exact free_app (free_one h2) (free_app (free_app (free_num h1 b1.1) (free_one h3)) (free_num h1 b2.1))
  -- ahead of the cabin: people and car
  have hA : cutA 43 (numT pe ++ carT ⟨pe, len, hei, cl, all, be⟩) = numT pe ∧ (if cutF 43 (numT pe ++ carT ⟨pe, len, hei, cl, all, be⟩) then numOf (cutA 47 (cutB 43 (numT pe ++ carT ⟨pe, len, hei, cl, all, be⟩))) else 0) = len ∧ (if cutF 43 (numT pe ++ carT ⟨pe, len, hei, cl, all, be⟩) then numOf (cutB 47 (cutB 43 (numT pe ++ carT ⟨pe, len, hei, cl, all, be⟩))) else 0) = hei := by
    by_cases c : len = 0 ∧ hei = 0
    · have e : numT pe ++ carT ⟨pe, len, hei, cl, all, be⟩ = numT pe := by
        unfold carT
        rw [if_pos c]
        exact ByteArray.append_empty
      rw [e]
      obtain ⟨h1, _, h3⟩ := cut_of (cut_free (free_num nd43 b0.1))
      rw [h1, h3]
      exact ⟨rfl, c.1.symm, c.2.symm⟩
    · have e : carT ⟨pe, len, hei, cl, all, be⟩ = ⟨#[43]⟩ ++ (numT len ++ ⟨#[47]⟩ ++ numT hei) := by unfold carT; rw [if_neg c]
      rw [e]
      obtain ⟨h1, h2, h3⟩ := cut_of (cut_at (p := 43) (a := numT pe) (b := numT len ++ ⟨#[47]⟩ ++ numT hei) (free_num nd43 b0.1) rfl)
      obtain ⟨k1, k2, _⟩ := cut_of (cut_at (p := 47) (s := numT len ++ ⟨#[47]⟩ ++ numT hei) (a := numT len) (b := numT hei) (free_num nd47 b1.1) (by rw [ByteArray.append_assoc]))
      rw [h1, h2, h3, k1, k2]
      exact ⟨rfl, numOf_text b1, numOf_text b2⟩
  by_cases c : cl = 0
  · have e : partyT ⟨pe, len, hei, cl, all, be⟩ = numT pe ++ carT ⟨pe, len, hei, cl, all, be⟩ := by unfold partyT; rw [if_pos c]
    have hf : Free 64 (numT pe ++ carT ⟨pe, len, hei, cl, all, be⟩) := free_app (free_num nd64 b0.1) (ncar 64 nd64 (by decide) (by decide))
    obtain ⟨h1, h2, h3⟩ := cut_of (cut_free hf)
    have hz : all = false ∧ be = 0 := by
      rcases hk.2.2 with h | h
      · exact h.2
      · have := h.1.1
        have : 1 ≤ cl := this
        omega
    rw [e]
    unfold readP
    rw [h1, h3, hA.1, hA.2.1, hA.2.2, numOf_text b0]
    obtain ⟨rfl, rfl⟩ := hz
    subst c
    rfl
  · have e : partyT ⟨pe, len, hei, cl, all, be⟩ = (numT pe ++ carT ⟨pe, len, hei, cl, all, be⟩) ++ (⟨#[64]⟩ ++ (numT cl ++ berT ⟨pe, len, hei, cl, all, be⟩)) := by
      unfold partyT cabT
      rw [if_neg c, if_neg c]
      simp only [ByteArray.append_assoc]
    have hf : Free 64 (numT pe ++ carT ⟨pe, len, hei, cl, all, be⟩) := free_app (free_num nd64 b0.1) (ncar 64 nd64 (by decide) (by decide))
    obtain ⟨h1, h2, h3⟩ := cut_of (cut_at hf rfl)
    have hz := hk.2.2
    rw [e]
    unfold readP
    rw [h1, h2, h3, hA.1, hA.2.1, hA.2.2, numOf_text b0]
    cases all with
    | true =>
      have e2 : numT cl ++ berT ⟨pe, len, hei, cl, true, be⟩ = numT cl := by
        unfold berT
        rw [if_pos rfl]
        exact ByteArray.append_empty
      obtain ⟨k1, k2, k3⟩ := cut_of (cut_free (free_num nd120 b3.1))
      rw [e2, k1, k3, numOf_text b3]
      have hb : be = 0 := by
        rcases hz with h | h
        · exact absurd h.1 c
        · rcases h.2 with h | h
          · exact h.2
          · exact absurd h.1 (by simp)
      subst hb
      rfl
    | false =>
      have e2 : numT cl ++ berT ⟨pe, len, hei, cl, false, be⟩ = numT cl ++ (⟨#[120]⟩ ++ numT be) := by
        unfold berT
        rw [if_neg (by simp)]
      obtain ⟨k1, k2, k3⟩ := cut_of (cut_at (p := 120) (a := numT cl) (b := numT be) (free_num nd120 b3.1) rfl)
      rw [e2, k1, k2, k3, numOf_text b3, numOf_text b4]
      rfl
theorem parts_legs {n : Nat} {f : Nat → Int} (hn : 0 < n) (h : ∀ i, i < n → In (f i) 0 99999) : Parts 44 (legsT n f) ((List.range n).map (fun i => numT (f i))) := by
  refine ⟨by intro e; have := congrArg List.length e; simp at this; omega, rfl, fun q hq => ?_⟩
  obtain ⟨i, hi, rfl⟩ := List.mem_map.1 hq
  exact free_num nd44 (h i (by simpa using hi)).1
theorem legs_not {n : Nat} {f : Nat → Int} (hn : 0 < n) (h : ∀ i, i < n → In (f i) 0 99999) : legsT n f ≠ ⟨#[45]⟩ := fun e => by
  have hp := parts_legs hn h
  rw [e] at hp
  have hq : Parts 44 ⟨#[45]⟩ [⟨#[45]⟩] := ⟨by simp, joinT_one _ _, fun q hq => by simp at hq; rw [hq]; simp⟩
  have e2 := parts_one hp hq
  have h0 : ((List.range n).map (fun i => numT (f i)))[0]? = some (numT (f 0)) := by
    rw [List.getElem?_map, List.getElem?_range hn]
    rfl
  rw [e2] at h0
  have e3 : (⟨#[45]⟩ : ByteArray) = numT (f 0) := by simpa using h0
  have : Free 45 (numT (f 0)) := free_num (by unfold Digit; decide) (h 0 hn).1
  rw [← e3] at this
  exact this (by simp)
theorem legs_back {n : Nat} {f : Nat → Int} {L : List Int} (hn : 0 < n) (h : ∀ i, i < n → In (f i) 0 99999) (hr : LegsRead (legsT n f) L) : L.length = n ∧ ∀ i, i < n → getI L i = f i := by
  rcases hr.2 with ⟨e, _⟩ | ⟨_, l, hl, rfl⟩
  · exact absurd e (legs_not hn h)
  · have e := parts_one hl (parts_legs hn h)
    subst e
    refine ⟨by simp, fun i hi => ?_⟩
    unfold getI
    rw [List.getD_eq_getElem?_getD, List.getElem?_map, List.getElem?_map, List.getElem?_range hi]
    exact numOf_text (h i hi)

end Go.Proofs.YtfallpinmhbemaaGreatDoor

namespace Go.Proofs.YtfallpinmhbemaaGreatDoor
open Go.RowKit

theorem free_word : ∀ k, k < 10 → Free 32 (wordT k) := by
  intro k hk
  unfold Free
  have hc : k = 0 ∨ k = 1 ∨ k = 2 ∨ k = 3 ∨ k = 4 ∨ k = 5 ∨ k = 6 ∨ k = 7 ∨ k = 8 ∨ k = 9 := by omega
  rcases hc with rfl | rfl | rfl | rfl | rfl | rfl | rfl | rfl | rfl | rfl <;> decide
theorem free_party {q : UInt8} (h0 : ¬ Digit q) (h1 : q ≠ 43) (h2 : q ≠ 47) (h3 : q ≠ 64) (h4 : q ≠ 120) {p : Party} (hp : PartyOk p) : Free q (partyT p) := by
  unfold PartyOk CarOk CabOk In at hp
  have a0 := free_num h0 (m := p.pe) (by omega)
  have a1 := free_num h0 (m := p.len) (by omega)
  have a2 := free_num h0 (m := p.hei) (by omega)
  have a3 := free_num h0 (m := p.cl) (by omega)
  have a4 := free_num h0 (m := p.be) (by omega)
  have c1 : Free q (carT p) := by
    unfold carT
    split
    · exact free_nil q
    · exact free_app (free_one h1) (free_app (free_app a1 (free_one h2)) a2)
  have c2 : Free q (cabT p) := by
    unfold cabT
    split
    · exact free_nil q
    · exact free_app (free_one h3) a3
  have c3 : Free q (berT p) := by
    unfold berT
    split
    · exact free_nil q
    · exact free_app (free_one h4) a4
  unfold partyT
  split
  · exact free_app a0 c1
  · exact free_app (free_app (free_app a0 c1) c2) c3
theorem opt_mem {b : Bool} {q p : ByteArray} (h : p ∈ opt b q) : b = true ∧ p = q := by
  unfold opt at h
  cases b with
  | false => simp at h
  | true => simp at h; exact ⟨rfl, h⟩
theorem parts_op {y : OpD} (h : HasText y) : Parts 32 (opT y) (opP6 y) := by
  refine ⟨by simp [opP6, opP5, opP4, opP3, opP2, opP1, opP0], rfl, fun p hp => ?_⟩
  obtain ⟨k, hk⟩ : ∃ k, k = y.kind.toNat := ⟨_, rfl⟩
  have hk9 : k < 10 := by have := h.1.1; unfold In at this; omega
  unfold opP6 opP5 opP4 opP3 opP2 opP1 opP0 at hp
  rw [← hk] at hp
  simp only [List.mem_append, List.mem_singleton] at hp
  rcases hp with ((((((hp | hp) | hp) | hp) | hp) | hp) | hp)
  · rw [hp]; exact free_word k hk9
  · obtain ⟨q, rfl⟩ := opt_mem hp
    exact free_num nd32 (rng1 h hk.symm q).1
  · obtain ⟨q, rfl⟩ := opt_mem hp
    have h1 := h.1.2.1
    unfold OwnerOk at h1
    split at h1
    · exact free_name h1 (by unfold Letter; decide)
    · have e : y.own = ⟨#[]⟩ := by
        apply ByteArray.ext
        exact Array.eq_empty_of_size_eq_zero h1
      rw [e]
      exact free_nil 32
  · obtain ⟨q, rfl⟩ := opt_mem hp
    exact free_join (q := 44) (by decide) _ (fun x hx => by
      obtain ⟨i, hi, rfl⟩ := List.mem_map.1 hx
      exact free_num nd32 (h.2 i (by simpa using hi)).1)
  · obtain ⟨q, rfl⟩ := opt_mem hp
    exact free_party nd32 (by decide) (by decide) (by decide) (by decide) (rng4 h hk.symm q)
  · obtain ⟨q, rfl⟩ := opt_mem hp
    exact free_num nd32 (rng5 h hk.symm q).1
  · obtain ⟨q, rfl⟩ := opt_mem hp
    exact free_num nd32 (rng6 h hk.symm q).1
theorem nx_opt (b : Bool) (p : ByteArray) (L : List ByteArray) : nx b (opt b p ++ L) = L := by
  cases b <;> rfl
theorem hd_opt {b : Bool} (h : b = true) (p : ByteArray) (L : List ByteArray) : hd (opt b p ++ L) = p := by
  subst h
  rfl
theorem op_list (y : OpD) : opP6 y = wordT y.kind.toNat :: (opt (fName y.kind.toNat) (numT y.name) ++ (opt (fOwner y.kind.toNat) y.own ++ (opt (decide (0 < fLegs y.kind.toNat)) (legsT y.lgn y.lg) ++ (opt (fParty y.kind.toNat) (partyT y.p) ++ (opt (fUntil y.kind.toNat) (numT y.unt) ++ (opt (fNow y.kind.toNat) (numT y.now) ++ [])))))) := by
  unfold opP6 opP5 opP4 opP3 opP2 opP1 opP0
  simp only [List.append_assoc, List.cons_append, List.nil_append, List.append_nil]
theorem zero_name {y : OpD} {k : Nat} (h : HasText y) (hk : y.kind.toNat = k) (hq : fName k = false) : y.name = 0 := by
  have h1 := h.1.2.2.1
  have h0 := h.1.1
  unfold NameOk at h1
  unfold In at h0
  rw [if_neg] at h1
  · exact h1
  · intro c
    unfold In at c
    unfold fName at hq
    exact absurd (⟨by omega, by omega⟩ : 4 ≤ k ∧ k ≤ 8) (of_decide_eq_false hq)
theorem zero_own {y : OpD} {k : Nat} (h : HasText y) (hk : y.kind.toNat = k) (hq : fOwner k = false) : y.own = ⟨#[]⟩ := by
  have h1 := h.1.2.1
  have h0 := h.1.1
  unfold OwnerOk at h1
  unfold In at h0
  unfold fOwner at hq
  have hq := of_decide_eq_false hq
  rw [if_neg (by omega)] at h1
  apply ByteArray.ext
  exact Array.eq_empty_of_size_eq_zero h1
theorem zero_legs {y : OpD} {k : Nat} (h : HasText y) (hk : y.kind.toNat = k) (hq : decide (0 < fLegs k) = false) : y.lgn = 0 := by
  have h1 := h.1.2.2.2.1
  have h0 := h.1.1
  have hq := of_decide_eq_false hq
  unfold In at h0
  unfold LegsOkFor at h1
  unfold fLegs at hq
  by_cases c : HasLegs y.kind
  · unfold HasLegs at c
    rw [if_pos (by omega)] at hq
    omega
  · rw [if_neg c] at h1
    unfold HasLegs at c
    rw [if_neg (by omega)] at hq
    by_cases d : y.kind = 9
    · rw [if_pos (by omega)] at hq
      omega
    · rw [if_neg d] at h1
      exact h1
theorem zero_party {y : OpD} {k : Nat} (h : HasText y) (hk : y.kind.toNat = k) (hq : fParty k = false) : y.p = noParty := by
  have h1 := h.1.2.2.2.2.1
  unfold PartyOkFor at h1
  rw [if_neg (fun c => by rw [(hasLegs_of h hk).2 c] at hq; cases hq)] at h1
  unfold NoParty at h1
  generalize y.p = p at h1
  obtain ⟨a, b, c, d, e, f⟩ := p
  obtain ⟨rfl, rfl, rfl, rfl, rfl, rfl⟩ := h1
  rfl
theorem zero_unt {y : OpD} {k : Nat} (h : HasText y) (hk : y.kind.toNat = k) (hq : fUntil k = false) : y.unt = 0 := by
  have h1 := h.1.2.2.2.2.2.1
  unfold fUntil at hq
  have hq := of_decide_eq_false hq
  rcases h1 with h1 | h1
  · exact h1
  · exact absurd (by omega) hq
theorem zero_now {y : OpD} {k : Nat} (h : HasText y) (hk : y.kind.toNat = k) (hq : fNow k = false) : y.now = 0 := by
  have h1 := h.1.2.2.2.2.2.2
  unfold fNow at hq
  have hq := of_decide_eq_false hq
  rcases h1 with h1 | h1
  · exact h1
  · exact absurd (by omega) hq

set_option maxHeartbeats 1600000 in
theorem read_back {y : OpD} (h : HasText y) {l : List ByteArray} {x : OpR} (hl : Parts 32 (opT y) l) (hr : OpRead l x) : SameOp x.d y := by
  have e := parts_one hl (parts_op h)
  obtain ⟨k, hk⟩ : ∃ k, y.kind.toNat = k := ⟨_, rfl⟩
  have hkI : y.kind = (k : Int) := by have := h.1.1; unfold In at this; omega
  have hk9 : k < 10 := by have := h.1.1; unfold In at this; omega
  rw [op_list, hk] at e
  have r1 := hr.kind
  have r2 := hr.name
  have r3 := hr.own
  have r4 := hr.legs
  have r5 := hr.party
  have r6 := hr.unt
  have r7 := hr.now
  have eh : hd l = wordT k := by rw [e]; rfl
  have ek : kindOf (hd l) = k := by rw [eh]; exact kindOf_word hk9
  rw [ek] at r1 r2 r3 r4 r5 r6 r7
  have d1 : wd1 l = opt (fName k) (numT y.name) ++ (opt (fOwner k) y.own ++ (opt (decide (0 < fLegs k)) (legsT y.lgn y.lg) ++ (opt (fParty k) (partyT y.p) ++ (opt (fUntil k) (numT y.unt) ++ (opt (fNow k) (numT y.now) ++ []))))) := by rw [e]; rfl
  have d2 : wd2 k l = opt (fOwner k) y.own ++ (opt (decide (0 < fLegs k)) (legsT y.lgn y.lg) ++ (opt (fParty k) (partyT y.p) ++ (opt (fUntil k) (numT y.unt) ++ (opt (fNow k) (numT y.now) ++ [])))) := by unfold wd2; rw [d1, nx_opt]
  have d3 : wd3 k l = opt (decide (0 < fLegs k)) (legsT y.lgn y.lg) ++ (opt (fParty k) (partyT y.p) ++ (opt (fUntil k) (numT y.unt) ++ (opt (fNow k) (numT y.now) ++ []))) := by unfold wd3; rw [d2, nx_opt]
  have d4 : wd4 k l = opt (fParty k) (partyT y.p) ++ (opt (fUntil k) (numT y.unt) ++ (opt (fNow k) (numT y.now) ++ [])) := by unfold wd4; rw [d3, nx_opt]
  have d5 : wd5 k l = opt (fUntil k) (numT y.unt) ++ (opt (fNow k) (numT y.now) ++ []) := by unfold wd5; rw [d4, nx_opt]
  have d6 : wd6 k l = opt (fNow k) (numT y.now) ++ [] := by unfold wd6; rw [d5, nx_opt]
  rw [d1] at r2
  rw [d2] at r3
  rw [d3] at r4
  rw [d4] at r5
  rw [d5] at r6
  rw [d6] at r7
  have q2 : x.name = y.name := by
    cases c : fName k with
    | false => rw [c] at r2; rw [zero_name h hk c]; exact r2
    | true =>
      rw [hd_opt c, c] at r2
      have := rng1 h hk c
      rw [r2]
      exact numOf_text ⟨this.1, by omega⟩
  have q3 : x.own = y.own := by
    cases c : fOwner k with
    | false => rw [c] at r3; rw [zero_own h hk c]; exact r3
    | true => rw [hd_opt c, c] at r3; exact r3
  have q4 : x.L.length = y.lgn ∧ ∀ i, i < y.lgn → getI x.L i = y.lg i := by
    cases c : decide (0 < fLegs k) with
    | false =>
      have r4 : x.L = [] := r4.2 c
      rw [zero_legs h hk c, r4]
      exact ⟨rfl, fun i hi => by omega⟩
    | true =>
      have r4 := r4.1 c
      rw [hd_opt c] at r4
      exact legs_back (rng3 h hk c).1 h.2 r4
  have q5 : x.p = y.p := by
    cases c : fParty k with
    | false => rw [c] at r5; rw [zero_party h hk c]; exact r5
    | true =>
      rw [hd_opt c, c] at r5
      rw [r5]
      exact readP_back (rng4 h hk c)
  have q6 : x.unt = y.unt := by
    cases c : fUntil k with
    | false => rw [c] at r6; rw [zero_unt h hk c]; exact r6
    | true =>
      rw [hd_opt c, c] at r6
      have := rng5 h hk c
      rw [r6]
      exact numOf_text ⟨this.1, by omega⟩
  have q7 : x.now = y.now := by
    cases c : fNow k with
    | false => rw [c] at r7; rw [zero_now h hk c]; exact r7
    | true =>
      rw [hd_opt c, c] at r7
      have := rng6 h hk c
      rw [r7]
      exact numOf_text ⟨this.1, by omega⟩
  exact ⟨by rw [hkI]; exact r1, q3, q2, q4.1, q4.2, q5, q6, q7⟩

end Go.Proofs.YtfallpinmhbemaaGreatDoor

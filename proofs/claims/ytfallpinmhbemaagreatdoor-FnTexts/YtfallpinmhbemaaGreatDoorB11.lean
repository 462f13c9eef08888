/-
  OWN TEXT: KitBs, KitY, DrawOl, KitOp, KitOsi.
-/
import Derived.Great.Walk
import Derived.Test.YtfallpinmhbemaaGreatDoorB10
import Derived.Test.YtfallpinmhbemaaGreatDoorB00
import Derived.Test.YtfallpinmhbemaaGreatDoorB01
import Derived.Test.YtfallpinmhbemaaGreatDoorB02
namespace Go.Proofs.YtfallpinmhbemaaGreatDoor
open Go.RowKit

theorem step_buildSlice {P : Program} {ops : Array Oper} {o : Oper} {a : Act} {w : World} {K : Act → World → Prop} {Q : Exit → Act → World → Prop} {E : Prop} (hg : o.guard = none) (t e : TypeId) (len : Nat) (parts : Array (Nat × Operand)) (ho : o.op = .buildSlice t len parts) (hu : P.underlying t = some (.slice e)) (cells : Array Value)
    (hf : P.builtSlice e len (parts.map fun (i, x) => (i, a.eval x)).toList = some cells) (hK : K (a.put o.dst (.slice (some ⟨w.heap.size, 0, none⟩) len len)) (w.alloc (.cells cells e))) :
    if Region.wanted o (yielded ops a.tmps) = true then Oper.wp P o a w K Q else E := by
  have hw : Region.wanted o (yielded ops a.tmps) = true := by simp [Region.wanted, hg]
  rw [if_pos hw]
  unfold Program.builtSlice at hf
  cases hie : P.info? e with
  | none => simp [hie] at hf
  | some ie =>
    simp only [hie] at hf
    cases hz : ie.zero with
    | none => simp [hz] at hf
    | some z =>
      simp only [hz] at hf
      by_cases hc : len * ie.size > 2 ^ 24 ∨ len * ie.size = 0
      · simp [hc] at hf
      · rw [if_neg hc] at hf
        exact wp_buildSlice t e len parts ho cells ie z hu hie hz (fun h' => hc (Or.inl h')) (fun h' => hc (Or.inr h')) hf hK
theorem book_set {w : World} {g t : Nat} {u0 u1 u2 u3 u4 u5 u6 u7 u8 u9 u10 u11 u12 : Value} (h : w.heap[g]? = some (.cells #[u0, u1, u2, u3, u4, u5, u6, u7, u8, u9, u10, u11, u12] t (0, 0))) (v0 v1 v2 v3 v4 v5 v6 v7 v8 v9 v10 v11 v12 : Value) :
    (((((((((((((w.setCell ⟨g, 0, none⟩ v0).setCell ⟨g, 1, none⟩ v1).setCell ⟨g, 2, none⟩ v2).setCell ⟨g, 3, none⟩ v3).setCell ⟨g, 4, none⟩ v4).setCell ⟨g, 5, none⟩ v5).setCell ⟨g, 6, none⟩ v6).setCell ⟨g, 7, none⟩ v7).setCell ⟨g, 8, none⟩ v8).setCell ⟨g, 9, none⟩ v9).setCell ⟨g, 10, none⟩ v10).setCell ⟨g, 11, none⟩ v11).setCell ⟨g, 12, none⟩ v12).heap[g]? = some (.cells #[v0, v1, v2, v3, v4, v5, v6, v7, v8, v9, v10, v11, v12] t (0, 0)) := by
  simpa using blk_set (blk_set (blk_set (blk_set (blk_set (blk_set (blk_set (blk_set (blk_set (blk_set (blk_set (blk_set (blk_set h 0 v0) 1 v1) 2 v2) 3 v3) 4 v4) 5 v5) 6 v6) 7 v7) 8 v8) 9 v9) 10 v10) 11 v11) 12 v12
theorem book_low {W w : World} {b : Nat} (h : Below W.heap.size W w) (hb : W.heap.size ≤ b) (v0 v1 v2 v3 v4 v5 v6 v7 v8 v9 v10 v11 v12 : Value) :
    Below W.heap.size W (((((((((((((w.setCell ⟨b, 0, none⟩ v0).setCell ⟨b, 1, none⟩ v1).setCell ⟨b, 2, none⟩ v2).setCell ⟨b, 3, none⟩ v3).setCell ⟨b, 4, none⟩ v4).setCell ⟨b, 5, none⟩ v5).setCell ⟨b, 6, none⟩ v6).setCell ⟨b, 7, none⟩ v7).setCell ⟨b, 8, none⟩ v8).setCell ⟨b, 9, none⟩ v9).setCell ⟨b, 10, none⟩ v10).setCell ⟨b, 11, none⟩ v11).setCell ⟨b, 12, none⟩ v12) := by
  exact (Below.setCell (p := ⟨b, 12, none⟩) (Below.setCell (p := ⟨b, 11, none⟩) (Below.setCell (p := ⟨b, 10, none⟩) (Below.setCell (p := ⟨b, 9, none⟩) (Below.setCell (p := ⟨b, 8, none⟩) (Below.setCell (p := ⟨b, 7, none⟩) (Below.setCell (p := ⟨b, 6, none⟩) (Below.setCell (p := ⟨b, 5, none⟩) (Below.setCell (p := ⟨b, 4, none⟩) (Below.setCell (p := ⟨b, 3, none⟩) (Below.setCell (p := ⟨b, 2, none⟩) (Below.setCell (p := ⟨b, 1, none⟩) (Below.setCell (p := ⟨b, 0, none⟩) h hb v0) hb v1) hb v2) hb v3) hb v4) hb v5) hb v6) hb v7) hb v8) hb v9) hb v10) hb v11) hb v12)
theorem book_keep (w : World) (b : Nat) (v0 v1 v2 v3 v4 v5 v6 v7 v8 v9 v10 v11 v12 : Value) :
    Kept w (((((((((((((w.setCell ⟨b, 0, none⟩ v0).setCell ⟨b, 1, none⟩ v1).setCell ⟨b, 2, none⟩ v2).setCell ⟨b, 3, none⟩ v3).setCell ⟨b, 4, none⟩ v4).setCell ⟨b, 5, none⟩ v5).setCell ⟨b, 6, none⟩ v6).setCell ⟨b, 7, none⟩ v7).setCell ⟨b, 8, none⟩ v8).setCell ⟨b, 9, none⟩ v9).setCell ⟨b, 10, none⟩ v10).setCell ⟨b, 11, none⟩ v11).setCell ⟨b, 12, none⟩ v12) (fun x => x = b) := by
  exact ((((((((((((((Kept.refl w (fun x => x = b)).set (a := ⟨b, 0, none⟩) rfl v0).set (a := ⟨b, 1, none⟩) rfl v1).set (a := ⟨b, 2, none⟩) rfl v2).set (a := ⟨b, 3, none⟩) rfl v3).set (a := ⟨b, 4, none⟩) rfl v4).set (a := ⟨b, 5, none⟩) rfl v5).set (a := ⟨b, 6, none⟩) rfl v6).set (a := ⟨b, 7, none⟩) rfl v7).set (a := ⟨b, 8, none⟩) rfl v8).set (a := ⟨b, 9, none⟩) rfl v9).set (a := ⟨b, 10, none⟩) rfl v10).set (a := ⟨b, 11, none⟩) rfl v11).set (a := ⟨b, 12, none⟩) rfl v12)

end Go.Proofs.YtfallpinmhbemaaGreatDoor

namespace Go.Proofs.YtfallpinmhbemaaGreatDoor
open Go.RowKit

section
variable {P : Program} {ops : Array Oper} {Q : Exit → Act → World → Prop} {md : Region.Mode} {S : World → Prop} {z : Nat}
theorem wpAnyZ_firstN {i : Nat} {oi : Oper} {v : Value} (hi : ops[i]? = some oi) (hz : z = ops.size) (hsel : ∀ (j : Nat) (o : Oper) cs b, ops[j]? = some o → o.op ≠ .select cs b)
    (hQ : ∀ c a w, Q (.panic c) (a.put oi.dst v) w → Q (.panic c) a w) :
    ∀ (fuel : Nat) (listed : Array Bool) (a : Act) (w : World),
      (∀ j oj, ops[j]? = some oj → j ≠ i → listed.getD j true = false → (∀ e ∈ oj.after, Region.binds md e = true → e.on ≠ i) → oi.apart ops oj = true) →
      i ∈ Region.ready md ops listed → YieldsIf P ops S oi v a → S w →
      wpAnyZ P md ops Q S z fuel (listed.setIfInBounds i true) (a.put oi.dst v) w → wpAnyZ P md ops Q S z (fuel + 1) listed a w := by
  intro fuel
  induction fuel with
  | zero =>
    intro listed a w _ hr hy hS H
    refine ⟨fun h => (by rw [h] at hr; cases hr), fun j hj => ?_⟩
    by_cases hji : j = i
    · subst hji; exact hy.wpOp hi hS ⟨fun _ => hS, H⟩
    · have := ready_mono hj hji
      rw [H.1] at this
      cases this
  | succ fuel ih =>
    intro listed a w hfree hr hy hS H
    refine ⟨fun h => (by rw [h] at hr; cases hr), fun j hj => ?_⟩
    by_cases hji : j = i
    · subst hji; exact hy.wpOp hi hS ⟨fun _ => hS, H⟩
    · have h1 := H.2 j (ready_mono hj hji)
      obtain ⟨hjun, oj, hoj, hall⟩ := mem_ready.1 hj
      have hjz : j ≠ z := fun e => by
        have := (Array.getElem?_eq_some_iff.1 hoj).1
        omega
      have hnot : ∀ e ∈ oj.after, Region.binds md e = true → e.on ≠ i := fun e he hb heq => by
        have h1 := hall e he hb
        have h0 := (mem_ready.1 hr).1
        rw [heq] at h1
        rcases Nat.lt_or_ge i listed.size with h' | h'
        · simp [h'] at h0 h1; rw [h0] at h1; cases h1
        · simp [Array.getElem?_eq_none h'] at h1
      have h2 := wpOp_putIf hoj (hfree j oj hoj hji hjun hnot) (fun cs b => hsel i oi cs b hi) (fun cs b => hsel j oj cs b hoj) hQ hy h1
      have hfree' : ∀ k ok, ops[k]? = some ok → k ≠ i → (listed.setIfInBounds j true).getD k true = false →
          (∀ e ∈ ok.after, Region.binds md e = true → e.on ≠ i) → oi.apart ops ok = true := fun k ok hk hki hun hno => by
        refine hfree k ok hk hki ?_ hno
        by_cases hjk : j = k
        · subst hjk; exact hjun
        · rw [getD_set_ne true hjk] at hun; exact hun
      refine wpOp_mono (fun a' w' h3 => ⟨h3.2.1, ih (listed.setIfInBounds j true) a' w' hfree' (ready_mono hr (Ne.symm hji)) h3.1 (h3.2.1 hjz) ?_⟩) h2
      rw [Array.setIfInBounds_comm _ _ hji]
      exact h3.2.2
end
section
variable {P : Program} {l : List Oper} {Q : Exit → Act → World → Prop} {md : Region.Mode} {S : World → Prop} {z : Nat}
theorem wpAnyZ_takeN {i : Nat} {oi : Oper} {v : Value} {fuel : Nat} {listed : List Bool} {a : Act} {w : World} (hi : l[i]? = some oi)
    (hk : (Region.noSelect l.toArray && Region.free md l.toArray listed.toArray i && (Region.ready md l.toArray listed.toArray).contains i && (z == l.toArray.size)) = true)
    (hQ : ∀ c a w, Q (.panic c) (a.put oi.dst v) w → Q (.panic c) a w) (hy : YieldsIf P l.toArray S oi v a) (hS : S w)
    (h : wpAnyZ P md l.toArray Q S z fuel (listed.set i true).toArray (a.put oi.dst v) w) : wpAnyZ P md l.toArray Q S z (fuel + 1) listed.toArray a w := by
  rw [Bool.and_eq_true, Bool.and_eq_true, Bool.and_eq_true] at hk
  exact wpAnyZ_firstN (i := i) (by simpa using hi) (by simpa using hk.2) (Region.noSelect_spec hk.1.1.1) hQ fuel _ a w (Region.free_spec (by simpa using hi) hk.1.1.2) (by simpa using hk.1.2) hy hS (by simpa using h)
end

end Go.Proofs.YtfallpinmhbemaaGreatDoor

namespace Go.Proofs.YtfallpinmhbemaaGreatDoor
open Go.RowKit

set_option maxHeartbeats 800000 in
theorem ofL (cb : Nat) (ao : Option Addr) (n c a : Nat) (m : Nat) (l : List ByteArray) (w : World) (hl : l.length = m) (ha : a ≤ 900000000000000000) (hm : 1 ≤ m) (hm2 : m ≤ 100000) (h : CurIs w cb ao n c a) (b : Nat) (hb : w.heap[b]? = some (.cells (l.map Value.string).toArray 9 (0, 0))) (hne : b ≠ cb) :
    Calls Tryz.prog 77 #[.pointer (some ⟨cb, 0, none⟩), .slice (some ⟨b, 0, none⟩) m m] w fun e w' => (∃ s, e = .returned (.string s) ∧ Hid (s ∈ l)) ∧ CurIs w' cb ao n c (a + 2) ∧ Kept w w' (fun b => b = cb) := by
  have HB : Hid (w.heap[b]? = some (.cells (l.map Value.string).toArray 9 (0, 0))) := hb
  clear hb
  go_enter Tryz.func77, Tryz.ntmps77
  go_wp2_with fail
  refine (pick_any cb ao n c a m _ ha hm hm2 h).mono ?_
  rintro e w1 ⟨⟨r, rfl, hr⟩, hc1, hk1⟩
  have hb1 := hk1.blk HB.out hne
  obtain ⟨s, hs⟩ : ∃ s, l[r]? = some s := ⟨_, List.getElem?_eq_getElem (by omega)⟩
  have HM : Hid (s ∈ l) := List.mem_of_getElem? hs
  have c1 : w1.cell? ⟨b, r, none⟩ = some (.string s) := blk_cell hb1 r _ (by simp [hs])
  have i1 : (r : Int) < (m : Int) := by omega
  clear hs hb1
  go_wp2
  go_ret
  exact ⟨⟨s, rfl, HM⟩, hc1, hk1⟩

end Go.Proofs.YtfallpinmhbemaaGreatDoor

namespace Go.Proofs.YtfallpinmhbemaaGreatDoor
open Go.RowKit

structure OpD where
  kind : Int
  own : ByteArray
  name : Int
  lgn : Nat
  lg : Nat → Int
  pe : Int
  len : Int
  hei : Int
  cl : Int
  all : Bool
  be : Int
  unt : Int
  now : Int

/-- Cells that read as an operation. -/
def OpD.Is (w : World) (cs : List Value) (x : OpD) : Prop :=
  ∃ alg clg, cs = [.int .i64 x.kind, .string x.own, .int .i64 x.name, .slice alg x.lgn clg, .int .i64 x.pe, .int .i64 x.len, .int .i64 x.hei, .int .i64 x.cl, .bool x.all, .int .i64 x.be, .int .i64 x.unt, .int .i64 x.now] ∧ IntsAt w alg x.lgn x.lg ∧ SliceOk alg x.lgn clg
theorem OpD.Is.below {w w' : World} {cs : List Value} {x : OpD} (h : OpD.Is w cs x) (hb : Below w.heap.size w w') : OpD.Is w' cs x := by
  obtain ⟨alg, clg, e, hlg, slg⟩ := h
  exact ⟨alg, clg, e, hlg.below hb, slg⟩
theorem OpD.Is.length {w : World} {cs : List Value} {x : OpD} (h : OpD.Is w cs x) : cs.length = 12 := by
  obtain ⟨_, _, rfl, _⟩ := h
  rfl
/-- Its lists and texts have B places at most. -/
def OpD.Short (x : OpD) (B : Nat) : Prop := x.own.size ≤ B ∧ x.lgn ≤ B
/-- A copy whose lists lie in blocks from lo on, below hi. -/
def OpD.In (w : World) (lo hi : Nat) (cs : List Value) (x : OpD) : Prop :=
  ∃ llg, cs = [.int .i64 x.kind, .string x.own, .int .i64 x.name, whole llg x.lgn, .int .i64 x.pe, .int .i64 x.len, .int .i64 x.hei, .int .i64 x.cl, .bool x.all, .int .i64 x.be, .int .i64 x.unt, .int .i64 x.now] ∧ (lo ≤ llg ∧ llg < hi ∧ w.rowIs llg 3 x.lgn (fun k => .int .i64 (x.lg k)))
theorem OpD.In.below {w w' : World} {lo hi : Nat} {cs : List Value} {x : OpD} (h : OpD.In w lo hi cs x) (hb : Below w.heap.size w w') : OpD.In w' lo hi cs x := by
  obtain ⟨llg, e, hlg⟩ := h
  exact ⟨llg, e, ⟨hlg.1, hlg.2.1, row_below hlg.2.2 hb⟩⟩
theorem OpD.In.wide {w : World} {lo hi lo' hi' : Nat} {cs : List Value} {x : OpD} (h : OpD.In w lo hi cs x) (h1 : lo' ≤ lo) (h2 : hi ≤ hi') : OpD.In w lo' hi' cs x := by
  obtain ⟨llg, e, hlg⟩ := h
  exact ⟨llg, e, ⟨Nat.le_trans h1 hlg.1, Nat.lt_of_lt_of_le hlg.2.1 h2, hlg.2.2⟩⟩
theorem OpD.In.kept {w w' : World} {lo hi : Nat} {S : Nat → Prop} {cs : List Value} {x : OpD} (h : OpD.In w lo hi cs x) (hk : Kept w w' S) (hS : ∀ b, S b → b < lo ∨ hi ≤ b) : OpD.In w' lo hi cs x := by
  obtain ⟨llg, e, hlg⟩ := h
  exact ⟨llg, e, ⟨hlg.1, hlg.2.1, hlg.2.2.of_block (hk.block _ hlg.2.2.lt (fun s => by have := hS _ s; omega))⟩⟩
theorem OpD.In.is {w : World} {lo hi : Nat} {cs : List Value} {x : OpD} (h : OpD.In w lo hi cs x) (hs : OpD.Short x 1048576) : OpD.Is w cs x := by
  obtain ⟨llg, e, hlg⟩ := h
  obtain ⟨_, slg⟩ := hs
  exact ⟨some ⟨llg, 0, none⟩, x.lgn, e, IntsAt.of_row hlg.2.2, ⟨Nat.le_refl _, by omega, fun h => by cases h⟩⟩

end Go.Proofs.YtfallpinmhbemaaGreatDoor

namespace Go.Proofs.YtfallpinmhbemaaGreatDoor
open Go.RowKit

/-- The cells of an operation. -/
def opCells (y : OpD) (lv : Value) : Array Value := #[.int .i64 y.kind, .string y.own, .int .i64 y.name, lv, .int .i64 y.pe, .int .i64 y.len, .int .i64 y.hei, .int .i64 y.cl, .bool y.all, .int .i64 y.be, .int .i64 y.unt, .int .i64 y.now]
/-- In the midst of an operation's drawing. -/
structure OSit (w u : World) (cb : Nat) (ao : Option Addr) (n c a pb : Nat) (o1 o2 o3 : Value) (y : OpD) (lv : Value) : Prop where
  cur : CurIs u cb ao n c a
  kept : Kept w u (fun b => b = cb)
  lt : w.heap.size + 1 < pb
  off : u.heap[w.heap.size]? = some (.cells #[o1, o2, o3] 66 (0, 0))
  res : u.heap[w.heap.size + 1]? = some (.cells #[.int .i64 0, .string ⟨#[]⟩, .int .i64 0, .slice none 0 0, .int .i64 0, .int .i64 0, .int .i64 0, .int .i64 0, .bool false, .int .i64 0, .int .i64 0, .int .i64 0] 27 (0, 0))
  box : u.heap[pb]? = some (.cells (opCells y lv) 27 (0, 0))
  legs : u.ownsRow w.heap.size 3 1 lv y.lgn (intList y.lg y.lgn)
section
variable {w u u' : World} {cb n c a a' pb : Nat} {ao : Option Addr} {o1 o2 o3 lv : Value} {y : OpD}
theorem OSit.on (h : OSit w u cb ao n c a pb o1 o2 o3 y lv) (hcb : cb < w.heap.size) (hc : CurIs u' cb ao n c a') (hk : Kept u u' (fun b => b = cb)) : OSit w u' cb ao n c a' pb o1 o2 o3 y lv :=
  have h1 := h.lt
  ⟨hc, h.kept.trans hk, h.lt, hk.blk h.off (by omega), hk.blk h.res (by omega), hk.blk h.box (by omega), hk.own h.legs (fun g hg e => by have e : g = cb := e; have := (h.legs.lt g hg).1; omega)⟩
theorem OSit.below (h : OSit w u cb ao n c a pb o1 o2 o3 y lv) (hb : Below u.heap.size u u') : OSit w u' cb ao n c a pb o1 o2 o3 y lv :=
  ⟨h.cur.below hb, h.kept.trans (Kept.of_below hb), h.lt, blk_below h.off hb, blk_below h.res hb, blk_below h.box hb, own_below hb h.legs⟩
theorem OSit.more (h : OSit w u cb ao n c a pb o1 o2 o3 y lv) (ha : a ≤ a') : OSit w u cb ao n c a' pb o1 o2 o3 y lv :=
  ⟨h.cur.more ha, h.kept, h.lt, h.off, h.res, h.box, h.legs⟩
theorem kept_own {t m : Nat} {v : Value} {xs : List Value} {cs : Array Value} {b k : Nat} (h : u.ownsRow k 3 1 v m xs) (hb : u.heap[b]? = some (.cells cs t (0, 0))) (ht : 3 ≠ t) (i : Nat) (z : Value) : (u.setCell ⟨b, i, none⟩ z).ownsRow k 3 1 v m xs :=
  ((Kept.refl u (fun z => z = b)).set (a := ⟨b, i, none⟩) rfl z).own h (fun g hg e => own_notE h hb ht g hg e)
/-- A store into the operation's own box; the legs may be others. -/
theorem OSit.put (h : OSit w u cb ao n c a pb o1 o2 o3 y lv) (hcb : cb < w.heap.size) (hl : LowCode w ao n) (i : Nat) (v : Value) (y' : OpD) (lv' : Value) (he : (opCells y lv).setIfInBounds i v = opCells y' lv') (hlg : u.ownsRow w.heap.size 3 1 lv' y'.lgn (intList y'.lg y'.lgn)) : OSit w (u.setCell ⟨pb, i, none⟩ v) cb ao n c a pb o1 o2 o3 y' lv' :=
  have h1 := h.lt
  ⟨h.cur.box (by omega) (fun k hk b off e => by have := hl k hk b off e; omega) i v, kept_far h.kept (by omega) i v, h.lt, blk_set_other h.off i v (by omega), blk_set_other h.res i v (by omega), by rw [← he]; exact blk_set h.box i v, kept_own hlg h.box (by decide) i v⟩
theorem OSit.put0 (h : OSit w u cb ao n c a pb o1 o2 o3 y lv) (hcb : cb < w.heap.size) (hl : LowCode w ao n) (x : Int) : OSit w (u.setCell ⟨pb, 0, none⟩ (.int .i64 x)) cb ao n c a pb o1 o2 o3 { y with kind := x } lv := h.put hcb hl 0 _ _ _ rfl h.legs
theorem OSit.put1 (h : OSit w u cb ao n c a pb o1 o2 o3 y lv) (hcb : cb < w.heap.size) (hl : LowCode w ao n) (x : ByteArray) : OSit w (u.setCell ⟨pb, 1, none⟩ (.string x)) cb ao n c a pb o1 o2 o3 { y with own := x } lv := h.put hcb hl 1 _ _ _ rfl h.legs
theorem OSit.put2 (h : OSit w u cb ao n c a pb o1 o2 o3 y lv) (hcb : cb < w.heap.size) (hl : LowCode w ao n) (x : Int) : OSit w (u.setCell ⟨pb, 2, none⟩ (.int .i64 x)) cb ao n c a pb o1 o2 o3 { y with name := x } lv := h.put hcb hl 2 _ _ _ rfl h.legs
theorem OSit.put3 (h : OSit w u cb ao n c a pb o1 o2 o3 y lv) (hcb : cb < w.heap.size) (hl : LowCode w ao n) (v : Value) (k : Nat) (F : Nat → Int) (hv : u.ownsRow w.heap.size 3 1 v k (intList F k)) : OSit w (u.setCell ⟨pb, 3, none⟩ v) cb ao n c a pb o1 o2 o3 { y with lgn := k, lg := F } v := h.put hcb hl 3 _ _ _ rfl hv
theorem OSit.put10 (h : OSit w u cb ao n c a pb o1 o2 o3 y lv) (hcb : cb < w.heap.size) (hl : LowCode w ao n) (x : Int) : OSit w (u.setCell ⟨pb, 10, none⟩ (.int .i64 x)) cb ao n c a pb o1 o2 o3 { y with unt := x } lv := h.put hcb hl 10 _ _ _ rfl h.legs
theorem OSit.put11 (h : OSit w u cb ao n c a pb o1 o2 o3 y lv) (hcb : cb < w.heap.size) (hl : LowCode w ao n) (x : Int) : OSit w (u.setCell ⟨pb, 11, none⟩ (.int .i64 x)) cb ao n c a pb o1 o2 o3 { y with now := x } lv := h.put hcb hl 11 _ _ _ rfl h.legs
/-- The party, six cells. -/
def putP (u : World) (pb : Nat) (x0 x1 x2 x3 : Int) (x4 : Bool) (x5 : Int) : World := (((((u.setCell ⟨pb, 4, none⟩ (.int .i64 x0)).setCell ⟨pb, 5, none⟩ (.int .i64 x1)).setCell ⟨pb, 6, none⟩ (.int .i64 x2)).setCell ⟨pb, 7, none⟩ (.int .i64 x3)).setCell ⟨pb, 8, none⟩ (.bool x4)).setCell ⟨pb, 9, none⟩ (.int .i64 x5)
theorem OSit.putP (h : OSit w u cb ao n c a pb o1 o2 o3 y lv) (hcb : cb < w.heap.size) (hl : LowCode w ao n) (x0 x1 x2 x3 : Int) (x4 : Bool) (x5 : Int) : OSit w (putP u pb x0 x1 x2 x3 x4 x5) cb ao n c a pb o1 o2 o3 { y with pe := x0, len := x1, hei := x2, cl := x3, all := x4, be := x5 } lv := by
  have h4 := h.put hcb hl 4 (.int .i64 x0) { y with pe := x0 } lv rfl h.legs
  have h5 := h4.put hcb hl 5 (.int .i64 x1) { y with pe := x0, len := x1 } lv rfl h4.legs
  have h6 := h5.put hcb hl 6 (.int .i64 x2) { y with pe := x0, len := x1, hei := x2 } lv rfl h5.legs
  have h7 := h6.put hcb hl 7 (.int .i64 x3) { y with pe := x0, len := x1, hei := x2, cl := x3 } lv rfl h6.legs
  have h8 := h7.put hcb hl 8 (.bool x4) { y with pe := x0, len := x1, hei := x2, cl := x3, all := x4 } lv rfl h7.legs
  exact h8.put hcb hl 9 (.int .i64 x5) _ lv rfl h8.legs
/-- The operation's box copied into the answer's. -/
def endO (u : World) (r : Nat) (y : OpD) (lv : Value) : World := (((((((((((u.setCell ⟨r, 0, none⟩ (.int .i64 y.kind)).setCell ⟨r, 1, none⟩ (.string y.own)).setCell ⟨r, 2, none⟩ (.int .i64 y.name)).setCell ⟨r, 3, none⟩ lv).setCell ⟨r, 4, none⟩ (.int .i64 y.pe)).setCell ⟨r, 5, none⟩ (.int .i64 y.len)).setCell ⟨r, 6, none⟩ (.int .i64 y.hei)).setCell ⟨r, 7, none⟩ (.int .i64 y.cl)).setCell ⟨r, 8, none⟩ (.bool y.all)).setCell ⟨r, 9, none⟩ (.int .i64 y.be)).setCell ⟨r, 10, none⟩ (.int .i64 y.unt)).setCell ⟨r, 11, none⟩ (.int .i64 y.now)
theorem res_put {r : Nat} {cs : Array Value} (hr : w.heap.size ≤ r) (hcb : cb < w.heap.size) (hl : LowCode w ao n) {k : Nat} {v : Value} {m : Nat} {xs : List Value} (h : CurIs u cb ao n c a ∧ Kept w u (fun b => b = cb) ∧ u.heap[r]? = some (.cells cs 27 (0, 0)) ∧ u.ownsRow k 3 1 v m xs) (i : Nat) (z : Value) (cs' : Array Value) (he : cs.setIfInBounds i z = cs') :
    CurIs (u.setCell ⟨r, i, none⟩ z) cb ao n c a ∧ Kept w (u.setCell ⟨r, i, none⟩ z) (fun b => b = cb) ∧ (u.setCell ⟨r, i, none⟩ z).heap[r]? = some (.cells cs' 27 (0, 0)) ∧ (u.setCell ⟨r, i, none⟩ z).ownsRow k 3 1 v m xs :=
  ⟨h.1.box (by omega) (fun k hk b off e => by have := hl k hk b off e; omega) i z, kept_far h.2.1 hr i z, by rw [← he]; exact blk_set h.2.2.1 i z, kept_own h.2.2.2 h.2.2.1 (by decide) i z⟩
theorem OSit.fin (h : OSit w u cb ao n c a pb o1 o2 o3 y lv) (hcb : cb < w.heap.size) (hl : LowCode w ao n) :
    CurIs (endO u (w.heap.size + 1) y lv) cb ao n c a ∧ Kept w (endO u (w.heap.size + 1) y lv) (fun b => b = cb) ∧ (endO u (w.heap.size + 1) y lv).heap[w.heap.size + 1]? = some (.cells (opCells y lv) 27 (0, 0)) ∧ (endO u (w.heap.size + 1) y lv).ownsRow w.heap.size 3 1 lv y.lgn (intList y.lg y.lgn) := by
  have hr : w.heap.size ≤ w.heap.size + 1 := by omega
  have p0 : CurIs u cb ao n c a ∧ Kept w u (fun b => b = cb) ∧ u.heap[w.heap.size + 1]? = some (.cells #[.int .i64 0, .string ⟨#[]⟩, .int .i64 0, .slice none 0 0, .int .i64 0, .int .i64 0, .int .i64 0, .int .i64 0, .bool false, .int .i64 0, .int .i64 0, .int .i64 0] 27 (0, 0)) ∧ u.ownsRow w.heap.size 3 1 lv y.lgn (intList y.lg y.lgn) := ⟨h.cur, h.kept, h.res, h.legs⟩
  have p1 := res_put hr hcb hl p0 0 (.int .i64 y.kind) #[.int .i64 y.kind, .string ⟨#[]⟩, .int .i64 0, .slice none 0 0, .int .i64 0, .int .i64 0, .int .i64 0, .int .i64 0, .bool false, .int .i64 0, .int .i64 0, .int .i64 0] rfl
  have p2 := res_put hr hcb hl p1 1 (.string y.own) #[.int .i64 y.kind, .string y.own, .int .i64 0, .slice none 0 0, .int .i64 0, .int .i64 0, .int .i64 0, .int .i64 0, .bool false, .int .i64 0, .int .i64 0, .int .i64 0] rfl
  have p3 := res_put hr hcb hl p2 2 (.int .i64 y.name) #[.int .i64 y.kind, .string y.own, .int .i64 y.name, .slice none 0 0, .int .i64 0, .int .i64 0, .int .i64 0, .int .i64 0, .bool false, .int .i64 0, .int .i64 0, .int .i64 0] rfl
  have p4 := res_put hr hcb hl p3 3 (lv) #[.int .i64 y.kind, .string y.own, .int .i64 y.name, lv, .int .i64 0, .int .i64 0, .int .i64 0, .int .i64 0, .bool false, .int .i64 0, .int .i64 0, .int .i64 0] rfl
  have p5 := res_put hr hcb hl p4 4 (.int .i64 y.pe) #[.int .i64 y.kind, .string y.own, .int .i64 y.name, lv, .int .i64 y.pe, .int .i64 0, .int .i64 0, .int .i64 0, .bool false, .int .i64 0, .int .i64 0, .int .i64 0] rfl
  have p6 := res_put hr hcb hl p5 5 (.int .i64 y.len) #[.int .i64 y.kind, .string y.own, .int .i64 y.name, lv, .int .i64 y.pe, .int .i64 y.len, .int .i64 0, .int .i64 0, .bool false, .int .i64 0, .int .i64 0, .int .i64 0] rfl
  have p7 := res_put hr hcb hl p6 6 (.int .i64 y.hei) #[.int .i64 y.kind, .string y.own, .int .i64 y.name, lv, .int .i64 y.pe, .int .i64 y.len, .int .i64 y.hei, .int .i64 0, .bool false, .int .i64 0, .int .i64 0, .int .i64 0] rfl
  have p8 := res_put hr hcb hl p7 7 (.int .i64 y.cl) #[.int .i64 y.kind, .string y.own, .int .i64 y.name, lv, .int .i64 y.pe, .int .i64 y.len, .int .i64 y.hei, .int .i64 y.cl, .bool false, .int .i64 0, .int .i64 0, .int .i64 0] rfl
  have p9 := res_put hr hcb hl p8 8 (.bool y.all) #[.int .i64 y.kind, .string y.own, .int .i64 y.name, lv, .int .i64 y.pe, .int .i64 y.len, .int .i64 y.hei, .int .i64 y.cl, .bool y.all, .int .i64 0, .int .i64 0, .int .i64 0] rfl
  have p10 := res_put hr hcb hl p9 9 (.int .i64 y.be) #[.int .i64 y.kind, .string y.own, .int .i64 y.name, lv, .int .i64 y.pe, .int .i64 y.len, .int .i64 y.hei, .int .i64 y.cl, .bool y.all, .int .i64 y.be, .int .i64 0, .int .i64 0] rfl
  have p11 := res_put hr hcb hl p10 10 (.int .i64 y.unt) #[.int .i64 y.kind, .string y.own, .int .i64 y.name, lv, .int .i64 y.pe, .int .i64 y.len, .int .i64 y.hei, .int .i64 y.cl, .bool y.all, .int .i64 y.be, .int .i64 y.unt, .int .i64 0] rfl
  have p12 := res_put hr hcb hl p11 11 (.int .i64 y.now) #[.int .i64 y.kind, .string y.own, .int .i64 y.name, lv, .int .i64 y.pe, .int .i64 y.len, .int .i64 y.hei, .int .i64 y.cl, .bool y.all, .int .i64 y.be, .int .i64 y.unt, .int .i64 y.now] rfl
  exact p12
end

end Go.Proofs.YtfallpinmhbemaaGreatDoor

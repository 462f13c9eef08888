/-
  OWN TEXT: spec.MostSteps and impl.MostSteps answer 58 for an operation that is good and 1 for another one, and write nothing that was there.
-/
import Derived.Test.YtgjcmifnigdndaaDoorSpecO2
import Derived.Test.YtgjcmifnigdndaaDoorOpI
namespace Go.Proofs.YtgjcmifnigdndaaDoor
open Go.RowKit

def mostOf (b : Bool) : Int := if b then 58 else 1

set_option maxRecDepth 100000 in
theorem specMost_any (cs : List Value) (x : OpD) (w : World) (hs : x.own.size ≤ 1000000000000000) (h : OpD.Is w cs x) :
    Calls Tryd.prog 5 #[.agg cs.toArray] w fun e w' => e = .returned (.int .i64 (mostOf (decide (OpOk x)))) ∧ Below w.heap.size w w' := by
  have HI : Hid (OpD.Is w cs x) := h
  obtain ⟨B, hB⟩ : ∃ B, B = decide (OpOk x) := ⟨_, rfl⟩
  rw [← hB]
  have HB : Hid (B = decide (OpOk x)) := hB
  clear hB
  obtain ⟨alg, clg, rfl, _, _⟩ := h
  have hb0 : Below w.heap.size w (w.alloc (.cells #[.int .i64 x.kind, .string x.own, .int .i64 x.name, .slice alg x.lgn clg, .int .i64 x.pe, .int .i64 x.len, .int .i64 x.hei, .int .i64 x.cl, .bool x.all, .int .i64 x.be, .int .i64 x.unt, .int .i64 x.now] 31)) := push (Below.refl _ _) _
  have A0 := heap_alloc_new w (.cells #[.int .i64 x.kind, .string x.own, .int .i64 x.name, .slice alg x.lgn clg, .int .i64 x.pe, .int .i64 x.len, .int .i64 x.hei, .int .i64 x.cl, .bool x.all, .int .i64 x.be, .int .i64 x.unt, .int .i64 x.now] 31)
  go_enter Tryd.func5, Tryd.ntmps5
  go_wp2_with fail
  generalize w.alloc (.cells #[.int .i64 x.kind, .string x.own, .int .i64 x.name, .slice alg x.lgn clg, .int .i64 x.pe, .int .i64 x.len, .int .i64 x.hei, .int .i64 x.cl, .bool x.all, .int .i64 x.be, .int .i64 x.unt, .int .i64 x.now] 31) = W at hb0 A0 ⊢
  refine (specOp_any [.int .i64 x.kind, .string x.own, .int .i64 x.name, .slice alg x.lgn clg, .int .i64 x.pe, .int .i64 x.len, .int .i64 x.hei, .int .i64 x.cl, .bool x.all, .int .i64 x.be, .int .i64 x.unt, .int .i64 x.now] x _ hs (HI.out.below hb0)).mono ?_
  rintro e w1 ⟨rfl, hb⟩
  have hb1 := after hb0 hb
  rw [← HB.out]
  clear A0 hb0 hb HB
  cases B with
  | false =>
    go_wp2
    go_ret
    exact ⟨rfl, hb1⟩
  | true =>
    go_wp2
    go_ret
    exact ⟨rfl, hb1⟩

set_option maxRecDepth 100000 in
theorem implMost_any (cs : List Value) (x : OpD) (w : World) (hs : x.own.size ≤ 1000000000000000) (h : OpD.Is w cs x) (hF : FormsAt w) :
    Calls Tryd.prog 7 #[.agg cs.toArray] w fun e w' => e = .returned (.int .i64 (mostOf (decide (OpOk x)))) ∧ Below w.heap.size w w' := by
  have HI : Hid (OpD.Is w cs x) := h
  obtain ⟨B, hB⟩ : ∃ B, B = decide (OpOk x) := ⟨_, rfl⟩
  rw [← hB]
  have HB : Hid (B = decide (OpOk x)) := hB
  clear hB
  obtain ⟨alg, clg, rfl, _, _⟩ := h
  have hb0 : Below w.heap.size w (w.alloc (.cells #[.int .i64 x.kind, .string x.own, .int .i64 x.name, .slice alg x.lgn clg, .int .i64 x.pe, .int .i64 x.len, .int .i64 x.hei, .int .i64 x.cl, .bool x.all, .int .i64 x.be, .int .i64 x.unt, .int .i64 x.now] 31)) := push (Below.refl _ _) _
  have A0 := heap_alloc_new w (.cells #[.int .i64 x.kind, .string x.own, .int .i64 x.name, .slice alg x.lgn clg, .int .i64 x.pe, .int .i64 x.len, .int .i64 x.hei, .int .i64 x.cl, .bool x.all, .int .i64 x.be, .int .i64 x.unt, .int .i64 x.now] 31)
  go_enter Tryd.func7, Tryd.ntmps7
  go_wp2_with fail
  generalize w.alloc (.cells #[.int .i64 x.kind, .string x.own, .int .i64 x.name, .slice alg x.lgn clg, .int .i64 x.pe, .int .i64 x.len, .int .i64 x.hei, .int .i64 x.cl, .bool x.all, .int .i64 x.be, .int .i64 x.unt, .int .i64 x.now] 31) = W at hb0 A0 ⊢
  refine (implOp_any [.int .i64 x.kind, .string x.own, .int .i64 x.name, .slice alg x.lgn clg, .int .i64 x.pe, .int .i64 x.len, .int .i64 x.hei, .int .i64 x.cl, .bool x.all, .int .i64 x.be, .int .i64 x.unt, .int .i64 x.now] x _ hs (HI.out.below hb0) (hF.below hb0)).mono ?_
  rintro e w1 ⟨rfl, hb⟩
  have hb1 := after hb0 hb
  rw [← HB.out]
  clear A0 hb0 hb HB
  cases B with
  | false =>
    go_wp2
    go_ret
    exact ⟨rfl, hb1⟩
  | true =>
    go_wp2
    go_ret
    exact ⟨rfl, hb1⟩

end Go.Proofs.YtgjcmifnigdndaaDoor

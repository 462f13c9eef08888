/-
  OWN TEXT: a number is appended onto a list that is empty or owned, as one step of a region that draws its order.
-/
import Derived.Test.YtaalhmaacaahhahKit3
import Derived.Test.YtaalhmaacaahhahKitB
namespace Go.Proofs.Ytaalhmaacaahhah
open Go.RowKit

/-- append(v, u), one step: v is empty or owned. -/
theorem step_append_spec {P : Program} {ops : Array Oper} {o : Oper} {a : Act} {w : World} {K : Act → World → Prop} {Q : Exit → Act → World → Prop} {E : Prop}
    (hg : o.guard = none) (s x : Operand) (t : TypeId) (hop : o.op = Op.call { callee := Callee.builtin Builtin.append, args := #[s, x], argTypes := #[t, t] })
    (base : Nat) (e : TypeId) (i : TypeInfo) (z : Value) (bytes : Nat) (h1 : P.underlying t = some (.slice e)) (h2 : P.info? e = some i) (h3 : i.zero = some z) (h4 : i.size = 1) (h5 : i.bytes = bytes) (h6 : z.cells.size = 1)
    (ao : Option Addr) (n c : Nat) (xs : List Value) (hs : a.eval s = .slice ao n c) (hd : SpecRow w base e 1 (.slice ao n c) n xs) (hnil : ao = none → n = 0 ∧ c = 0) (hxs : n = 0 → xs = [])
    (ad : Addr) (u : Value) (hx : a.eval x = .slice (some ad) 1 1) (hu : w.cell? (ad.add 0) = some u) (hu1 : u.oneCell' = true)
    (b1 : n + 1 ≤ maxLen) (b2 : (n + 1) * bytes ≤ 140737488355328) (hbase : base ≤ w.heap.size)
    (hK : ∀ v' w', w'.ownsRow base e 1 v' (n + 1) (xs ++ [u]) → (∀ W0 : World, Below W0.heap.size W0 w → W0.heap.size ≤ base → Below W0.heap.size W0 w') → K (a.put o.dst v') w') :
    if Region.wanted o (yielded ops a.tmps) = true then Oper.wp P o a w K Q else E := by
  have hnews : ∀ j v, [u][j]? = some v → w.cell? (ad.add j) = some v := by
    intro j v hv
    match j, hv with
    | 0, hv => simp at hv; subst hv; exact hu
    | j + 1, hv => simp at hv
  have hone : ∀ v ∈ [u], v.oneCell' = true := by intro v hv; simp at hv; subst hv; exact hu1
  rcases hd with ⟨h0, ao', e'⟩ | ⟨h0, hown⟩
  · subst h0
    simp only [Value.slice.injEq, true_and] at e'
    obtain ⟨rfl, rfl⟩ := e'
    rw [hxs rfl] at hK
    refine step_append_grows hg s x t hop e i z 1 bytes h1 h2 h3 h4 h5 h6 (by decide) ao 0 0 [] hs hnil (by simp) (by simp) ad 1 1 [u] hx (by simp) hnews hone (by omega) b1 b2 ?_
    intro v' w' ho hgr
    exact hK v' w' (own_base ho hbase) (fun W0 hb _ => hb.grown hgr hb.size (by simp))
  · refine step_append_lies w hg s x t hop base e i z 1 bytes h1 h2 h3 h4 h5 h6 (by decide) _ n xs hs hown ad 1 1 [u] hx (by simp) hnews hone (by decide) b1 b2 hbase _ rfl ?_
    intro g cap w' ho hgr _ _
    exact hK _ w' ho (fun W0 hb hle => hb.grown hgr hb.size (fun k hk => Nat.le_trans hle (hown.lt k hk).1))

end Go.Proofs.Ytaalhmaacaahhah

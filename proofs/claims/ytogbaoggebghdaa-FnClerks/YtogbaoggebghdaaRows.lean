/-
  No cell of these rows narrows 'for every input' (looked for: loops, veiled, ifaces, maps, wideKeys, modest, calm, conditions, laid).
  DERIVED. THE GIVEN ROWS OF THIS SEAT. 5 by the template 'for every input the law returns true; each argument reads behind the call as it read before'; 0 by the template 'total and deterministic' (their statements: YtogbaoggebghdaaTotals.lean).
  GIVEN WITH THE SEED: the statements are not yours to turn. If you find one false, say at which input.
  Laid BY PROGRAM, IN A SANDBOX (cutbox-rows.mjs): the forced cells as the released guide's own fill.sh prints them over the translation 3cc738c2cc92076c… (all of the seat's roots in one cut). By AI agents, Wed Nov 11 2026. No macro, syntax, notation, axiom, sorry.
-/
import Derived.Test.YtogbaoggebghdaaChecked
import GoSem.Claim
import GoSem.ClaimJoined
import GoSem.ClaimMapViews
import Derived.JoinedTies
import Derived.KernelRfl
namespace Go.Proofs.Ytogbaoggebghdaa
/- THE CELL 'sum', in the pinned program and in every row, IS THE sha256 OF THE DUMP (.gsa) THAT YtogbaoggebghdaaProg.lean LOADS. Nothing in Lean hashes anything: it is a label: what it is worth is what the hold of that sum in a sandbox is worth. -/
noncomputable def Try.pinned : Pinned := { name := "ytogbaoggebghdaa", sum := "3cc738c2cc92076c813b7a6c6f192e6ede0920286414a4e4322a878e1bf377a1", checked := Try.checked }
namespace Rows
def none {H : Type} : Left H := { results := [], args := [] }

/-- 'laws.FnClerks': WHATEVER THE INPUT: true; the input reads as it did. -/
def fnClerksSpec : ChangeSpec := { name := "fnClerks", fn := fun _ => fun
  | [d1, d2] => { results := [.lit (.bool true)], args := [d1, d2] }
  | _ => none }
def fnClerksRow : OpenClaim := { program := "ytogbaoggebghdaa", sum := "3cc738c2cc92076c813b7a6c6f192e6ede0920286414a4e4322a878e1bf377a1", func := "loop.example/g00084/laws.FnClerks", spec := "fnClerks", inPlace := ["sync/atomic.AddInt64", "slices.overlaps[loop.example/g00084/impl.Clerk]", "internal/bytealg.abigen_runtime_cmpstring", "sync/atomic.LoadInt64"], unfollowed := true, recurses := true, apart := false }
def FnClerksSaid : Prop := fnClerksRow.holds Try.pinned (OpenSpec.ofChange fnClerksSpec)

/-- ITS FALSE NEIGHBOUR: 'it returns false'. Refute it at one input. -/
def fnClerksWrong : ChangeSpec := { name := "fnClerks", fn := fun _ => fun
  | [d1, d2] => { results := [.lit (.bool false)], args := [d1, d2] }
  | _ => none }
def FnClerksWrongFalsely : Prop := fnClerksRow.holds Try.pinned (OpenSpec.ofChange fnClerksWrong)

/-- 'laws.FnExactGoodClerks': WHATEVER THE INPUT: true; the input reads as it did. -/
def fnExactGoodClerksSpec : ChangeSpec := { name := "fnExactGoodClerks", fn := fun _ => fun
  | [d] => { results := [.lit (.bool true)], args := [d] }
  | _ => none }
def fnExactGoodClerksRow : OpenClaim := { program := "ytogbaoggebghdaa", sum := "3cc738c2cc92076c813b7a6c6f192e6ede0920286414a4e4322a878e1bf377a1", func := "loop.example/g00084/laws.FnExactGoodClerks", spec := "fnExactGoodClerks", apart := false }
def FnExactGoodClerksSaid : Prop := fnExactGoodClerksRow.holds Try.pinned (OpenSpec.ofChange fnExactGoodClerksSpec)

/-- ITS FALSE NEIGHBOUR: 'it returns false'. Refute it at one input. -/
def fnExactGoodClerksWrong : ChangeSpec := { name := "fnExactGoodClerks", fn := fun _ => fun
  | [d] => { results := [.lit (.bool false)], args := [d] }
  | _ => none }
def FnExactGoodClerksWrongFalsely : Prop := fnExactGoodClerksRow.holds Try.pinned (OpenSpec.ofChange fnExactGoodClerksWrong)

/-- 'laws.FnExactAskClerk': WHATEVER THE INPUT: true; the input reads as it did. -/
def fnExactAskClerkSpec : ChangeSpec := { name := "fnExactAskClerk", fn := fun _ => fun
  | [d1, d2, d3] => { results := [.lit (.bool true)], args := [d1, d2, d3] }
  | _ => none }
def fnExactAskClerkRow : OpenClaim := { program := "ytogbaoggebghdaa", sum := "3cc738c2cc92076c813b7a6c6f192e6ede0920286414a4e4322a878e1bf377a1", func := "loop.example/g00084/laws.FnExactAskClerk", spec := "fnExactAskClerk", inPlace := ["sync/atomic.AddInt64", "slices.overlaps[loop.example/g00084/impl.Clerk]", "internal/bytealg.abigen_runtime_cmpstring", "sync/atomic.LoadInt64"], unfollowed := true, recurses := true, apart := false }
def FnExactAskClerkSaid : Prop := fnExactAskClerkRow.holds Try.pinned (OpenSpec.ofChange fnExactAskClerkSpec)

/-- ITS FALSE NEIGHBOUR: 'it returns false'. Refute it at one input. -/
def fnExactAskClerkWrong : ChangeSpec := { name := "fnExactAskClerk", fn := fun _ => fun
  | [d1, d2, d3] => { results := [.lit (.bool false)], args := [d1, d2, d3] }
  | _ => none }
def FnExactAskClerkWrongFalsely : Prop := fnExactAskClerkRow.holds Try.pinned (OpenSpec.ofChange fnExactAskClerkWrong)

/-- 'laws.FnExactSettleClerk': WHATEVER THE INPUT: true; the input reads as it did. -/
def fnExactSettleClerkSpec : ChangeSpec := { name := "fnExactSettleClerk", fn := fun _ => fun
  | [d1, d2, d3] => { results := [.lit (.bool true)], args := [d1, d2, d3] }
  | _ => none }
def fnExactSettleClerkRow : OpenClaim := { program := "ytogbaoggebghdaa", sum := "3cc738c2cc92076c813b7a6c6f192e6ede0920286414a4e4322a878e1bf377a1", func := "loop.example/g00084/laws.FnExactSettleClerk", spec := "fnExactSettleClerk", inPlace := ["sync/atomic.AddInt64", "slices.overlaps[loop.example/g00084/impl.Clerk]", "internal/bytealg.abigen_runtime_cmpstring"], unfollowed := true, recurses := true, apart := false }
def FnExactSettleClerkSaid : Prop := fnExactSettleClerkRow.holds Try.pinned (OpenSpec.ofChange fnExactSettleClerkSpec)

/-- ITS FALSE NEIGHBOUR: 'it returns false'. Refute it at one input. -/
def fnExactSettleClerkWrong : ChangeSpec := { name := "fnExactSettleClerk", fn := fun _ => fun
  | [d1, d2, d3] => { results := [.lit (.bool false)], args := [d1, d2, d3] }
  | _ => none }
def FnExactSettleClerkWrongFalsely : Prop := fnExactSettleClerkRow.holds Try.pinned (OpenSpec.ofChange fnExactSettleClerkWrong)

/-- 'laws.FnExactOpenClerks': WHATEVER THE INPUT: true; the input reads as it did. -/
def fnExactOpenClerksSpec : ChangeSpec := { name := "fnExactOpenClerks", fn := fun _ => fun
  | [d] => { results := [.lit (.bool true)], args := [d] }
  | _ => none }
def fnExactOpenClerksRow : OpenClaim := { program := "ytogbaoggebghdaa", sum := "3cc738c2cc92076c813b7a6c6f192e6ede0920286414a4e4322a878e1bf377a1", func := "loop.example/g00084/laws.FnExactOpenClerks", spec := "fnExactOpenClerks", inPlace := ["sync/atomic.AddInt64", "slices.overlaps[loop.example/g00084/impl.Clerk]"], unfollowed := true, recurses := true, apart := false }
def FnExactOpenClerksSaid : Prop := fnExactOpenClerksRow.holds Try.pinned (OpenSpec.ofChange fnExactOpenClerksSpec)

/-- ITS FALSE NEIGHBOUR: 'it returns false'. Refute it at one input. -/
def fnExactOpenClerksWrong : ChangeSpec := { name := "fnExactOpenClerks", fn := fun _ => fun
  | [d] => { results := [.lit (.bool false)], args := [d] }
  | _ => none }
def FnExactOpenClerksWrongFalsely : Prop := fnExactOpenClerksRow.holds Try.pinned (OpenSpec.ofChange fnExactOpenClerksWrong)

/- THE SECOND FORM. 'bulk': how many values and letters a reading holds, each counted each time it is reached (what is shared counts as often as it is met; a slice's spare places count too). A statement '..UptoSaid' is the law's where the arguments, and the package variables that the reading takes, are together of bulk at most 1048576: NARROWER than '..Said'. Prove '..Said' where nothing that the law and all that it calls make is longer than what came in: it says more and counts as full. Else prove '..UptoSaid'. A law counts once. -/
mutual
def uptoBulk {H : Type} : DataW H → Nat
  | .lit (.string bytes) => bytes.length + 1
  | .lit _ => 1
  | .nil => 1
  | .ptr d => uptoBulk d + 1
  | .slice elems spare => uptoBulkAll elems + uptoBulkAll spare + 1
  | .agg parts => uptoBulkAll parts + 1
  | .iface _ d => uptoBulk d + 1
  | .map entries => uptoBulkEntries entries + 1
  | .held _ => 1
def uptoBulkAll {H : Type} : List (DataW H) → Nat
  | [] => 0
  | d :: r => uptoBulk d + uptoBulkAll r
def uptoBulkEntries {H : Type} : List (Lit × DataW H) → Nat
  | [] => 0
  | x :: r => uptoBulkEntry x + uptoBulkEntries r
def uptoBulkEntry {H : Type} : Lit × DataW H → Nat
  | (.string bytes, d) => bytes.length + uptoBulk d + 1
  | (_, d) => uptoBulk d + 1
 end
def uptoSmall : (H : Type) → List (DataW H) → Bool := fun _ ds => decide (uptoBulkAll ds ≤ 1048576)
def OpenSpec.upto (s : _root_.Go.ChangeSpec) : _root_.Go.OpenSpec := { _root_.Go.OpenSpec.ofChange s with cond := some uptoSmall }

/-- 'laws.FnClerks', WHERE WHAT IT READS IS OF BULK AT MOST 1048576: true; the input reads as it did. -/
def fnClerksUptoRow : OpenClaim := { program := "ytogbaoggebghdaa", sum := "3cc738c2cc92076c813b7a6c6f192e6ede0920286414a4e4322a878e1bf377a1", func := "loop.example/g00084/laws.FnClerks", spec := "fnClerks", inPlace := ["sync/atomic.AddInt64", "slices.overlaps[loop.example/g00084/impl.Clerk]", "internal/bytealg.abigen_runtime_cmpstring", "sync/atomic.LoadInt64"], unfollowed := true, recurses := true, apart := false, narrowed := true }
def FnClerksUptoSaid : Prop := fnClerksUptoRow.holds Try.pinned (OpenSpec.upto fnClerksSpec)

/-- 'laws.FnExactGoodClerks', WHERE WHAT IT READS IS OF BULK AT MOST 1048576: true; the input reads as it did. -/
def fnExactGoodClerksUptoRow : OpenClaim := { program := "ytogbaoggebghdaa", sum := "3cc738c2cc92076c813b7a6c6f192e6ede0920286414a4e4322a878e1bf377a1", func := "loop.example/g00084/laws.FnExactGoodClerks", spec := "fnExactGoodClerks", apart := false, narrowed := true }
def FnExactGoodClerksUptoSaid : Prop := fnExactGoodClerksUptoRow.holds Try.pinned (OpenSpec.upto fnExactGoodClerksSpec)

/-- 'laws.FnExactAskClerk', WHERE WHAT IT READS IS OF BULK AT MOST 1048576: true; the input reads as it did. -/
def fnExactAskClerkUptoRow : OpenClaim := { program := "ytogbaoggebghdaa", sum := "3cc738c2cc92076c813b7a6c6f192e6ede0920286414a4e4322a878e1bf377a1", func := "loop.example/g00084/laws.FnExactAskClerk", spec := "fnExactAskClerk", inPlace := ["sync/atomic.AddInt64", "slices.overlaps[loop.example/g00084/impl.Clerk]", "internal/bytealg.abigen_runtime_cmpstring", "sync/atomic.LoadInt64"], unfollowed := true, recurses := true, apart := false, narrowed := true }
def FnExactAskClerkUptoSaid : Prop := fnExactAskClerkUptoRow.holds Try.pinned (OpenSpec.upto fnExactAskClerkSpec)

/-- 'laws.FnExactSettleClerk', WHERE WHAT IT READS IS OF BULK AT MOST 1048576: true; the input reads as it did. -/
def fnExactSettleClerkUptoRow : OpenClaim := { program := "ytogbaoggebghdaa", sum := "3cc738c2cc92076c813b7a6c6f192e6ede0920286414a4e4322a878e1bf377a1", func := "loop.example/g00084/laws.FnExactSettleClerk", spec := "fnExactSettleClerk", inPlace := ["sync/atomic.AddInt64", "slices.overlaps[loop.example/g00084/impl.Clerk]", "internal/bytealg.abigen_runtime_cmpstring"], unfollowed := true, recurses := true, apart := false, narrowed := true }
def FnExactSettleClerkUptoSaid : Prop := fnExactSettleClerkUptoRow.holds Try.pinned (OpenSpec.upto fnExactSettleClerkSpec)

/-- 'laws.FnExactOpenClerks', WHERE WHAT IT READS IS OF BULK AT MOST 1048576: true; the input reads as it did. -/
def fnExactOpenClerksUptoRow : OpenClaim := { program := "ytogbaoggebghdaa", sum := "3cc738c2cc92076c813b7a6c6f192e6ede0920286414a4e4322a878e1bf377a1", func := "loop.example/g00084/laws.FnExactOpenClerks", spec := "fnExactOpenClerks", inPlace := ["sync/atomic.AddInt64", "slices.overlaps[loop.example/g00084/impl.Clerk]"], unfollowed := true, recurses := true, apart := false, narrowed := true }
def FnExactOpenClerksUptoSaid : Prop := fnExactOpenClerksUptoRow.holds Try.pinned (OpenSpec.upto fnExactOpenClerksSpec)

end Rows
end Go.Proofs.Ytogbaoggebghdaa

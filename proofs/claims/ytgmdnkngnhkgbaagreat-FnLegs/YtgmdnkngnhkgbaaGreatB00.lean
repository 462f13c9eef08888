/-
  OWN TEXT: Kit, Kit2, Draw1, PlainLcg.
-/
import Derived.WalkKit
import Derived.WalkSpells
import Derived.WalkSmall
import Derived.Deep.OwnRows
import Derived.Deep.AppendLies
import Derived.Laws.AppendOwnNone
import Derived.Deep.QuietTactic
import Derived.BigQuiet
import Derived.Test.YtgmdnkngnhkgbaaGreatRows
import Derived.Deep.LoopGhost
import Derived.Laws.BitsLemmas
import Derived.Deep.RegionHeld3
namespace Go.Proofs.YtgmdnkngnhkgbaaGreat
section
open Go.RowKit
def zX (w:World) (ao:Option Addr) (n:Nat) (f:Nat→Int):Prop :=
 ∀ k,k<n→∃ b off,ao=some ⟨b,off,none⟩∧w.cell? ⟨b,off+k,none⟩=some (.int .i64 (f k))
theorem zX.below {w w':World} {ao:Option Addr} {n:Nat} {f:Nat→Int} (h:zX w ao n f) (hb:Below w.heap.size w w'):zX w' ao n f:=by
 intro k hk
 obtain ⟨b,off,e,hc⟩:=h k hk
 exact ⟨b,off,e,(hb.cell (World.block_lt_of_cell? w _ hc)).trans hc⟩
theorem zl {w w':World} (h:Below w.heap.size w w') (o:Obj):Below w.heap.size w (w'.alloc o):=h.alloc h.size o
theorem zf {w w' w'':World} (h:Below w.heap.size w w') (k:Below w'.heap.size w' w''):Below w.heap.size w w'':=h.trans (k.mono h.size)
/-! A block that is known whole. -/
theorem za {w:World} {b t:Nat} {cs:Array Value} (h:w.heap[b]?=some (.cells cs t (0,0))) (i:Nat) (v:Value) (hv:cs[i]?=some v):w.cell? ⟨b,i,none⟩=some v:=by
 simp [World.cell?,h,hv]
theorem ze {w:World} {b t:Nat} {cs:Array Value} (h:w.heap[b]?=some (.cells cs t (0,0))) (i:Nat):w.frozen? ⟨b,i,none⟩=false:=by
 simp [World.frozen?,h]
theorem zQ {w:World} {b:Nat} {o:Obj} (h:w.heap[b]?=some o):b<w.heap.size:=(Array.getElem?_eq_some_iff.1 h).1
theorem zt {w:World} {b t:Nat} {cs:Array Value} (h:w.heap[b]?=some (.cells cs t (0,0))) (i:Nat) (v:Value):(w.setCell ⟨b,i,none⟩ v).heap[b]?=some (.cells (cs.setIfInBounds i v) t (0,0)):=by
 simp [World.setCell,Array.getElem?_modify,h]
theorem zB {w:World} {b b':Nat} {o:Obj} (h:w.heap[b]?=some o) (i:Nat) (v:Value) (hne:b≠b'):(w.setCell ⟨b',i,none⟩ v).heap[b]?=some o :=
 (Below.heap_setCell w ⟨b',i,none⟩ v b hne).trans h
theorem zc {w:World} {b:Nat} {o:Obj} (h:w.heap[b]?=some o) (o':Obj):(w.alloc o').heap[b]?=some o:=(Below.heap_alloc w o' b (zQ h)).trans h
theorem zb {w w':World} {b:Nat} {o:Obj} (h:w.heap[b]?=some o) (hb:Below w.heap.size w w'):w'.heap[b]?=some o:=(hb.block b (zQ h)).trans h
theorem row_below {w w':World} {b t n:Nat} {f:Nat→Value} (h:w.rowIs b t n f) (hb:Below w.heap.size w w'):w'.rowIs b t n f:=h.of_block (hb.block _ h.lt)
def upto {α:Type} (k:Nat) (f:Nat→α) (z:α) (i:Nat):α:=if i<k then f i else z
theorem upto_lt {α:Type} {k i:Nat} (f:Nat→α) (z:α) (h:i<k):upto k f z i=f i:=if_pos h
theorem upto_step {α:Type} (f:Nat→α) (z:α) (k j:Nat) (h:j≠k):upto (k+1) f z j=upto k f z j:=by
 unfold upto;by_cases h2:j<k
 ·rw [if_pos h2,if_pos (by omega)]
 ·rw [if_neg h2,if_neg (by omega)]
def zw (F:Nat→Int) (n:Nat):List Value:=(List.range n).map (fun k=>.int .i64 (F k))
theorem intList_succ (F:Nat→Int) (k:Nat):zw F (k+1)=zw F k++[.int .i64 (F k)]:=by
 unfold zw;rw [List.range_succ,List.map_append];rfl
theorem intList_get (F:Nat→Int) (n j:Nat) (u:Value) (h:(zw F n)[j]?=some u):j<n∧u=.int .i64 (F j):=by
 unfold zw at h
 rw [List.getElem?_map] at h
 by_cases hj:j<n
 ·rw [List.getElem?_range hj] at h;simp at h;exact ⟨hj,h.symm⟩
 ·rw [List.getElem?_eq_none (by simpa using hj)] at h;cases h
theorem intList_one (F:Nat→Int) (n:Nat):∀ u ∈ zw F n,u.oneCell'=true:=by
 intro u hu
 unfold zw at hu
 simp only [List.mem_map] at hu
 obtain ⟨j,_,rfl⟩:=hu
 rfl
theorem zW (F:Nat→Int) (n:Nat):(zw F n).length=n:=by simp [zw]
theorem zC {w:World} {base base' e size n:Nat} {v:Value} {xs:List Value} (h:w.ownsRow base e size v n xs) (hb:base'≤base):w.ownsRow base' e size v n xs:=by
 refine ⟨h.1,?_⟩
 rcases h.2 with h0 | ⟨g,cap,cur,hv,h1,rest⟩
 ·exact .inl h0
 ·exact .inr ⟨g,cap,cur,hv,Nat.le_trans hb h1,rest⟩
theorem own_set {w:World} {base e size n:Nat} {v:Value} {xs:List Value} (h:w.ownsRow base e size v n xs) {a:Addr} (ha:a.block<base) (u:Value):(w.setCell a u).ownsRow base e size v n xs:=ownsRow_setCell_below h ha u
theorem zr {w:World} {base e size n:Nat} {v:Value} {xs:List Value} (h:w.ownsRow base e size v n xs):∃ ao c,v=.slice ao n c∧n≤c∧c≤maxLen∧(ao=none→n=0∧c=0):=by
 rcases h.2 with ⟨rfl,rfl⟩ | ⟨g,cap,cur,rfl,hb,hg,h1,h2,_⟩
 ·exact ⟨none,0,rfl,Nat.le_refl _,Nat.zero_le _,fun _=>⟨rfl,rfl⟩⟩
 ·exact ⟨_,cap,rfl,h1,h2,fun h=>by cases h⟩
theorem own_ints {w:World} {base e n c:Nat} {ao:Option Addr} {F:Nat→Int} (h:w.ownsRow base e 1 (.slice ao n c) n (zw F n)):zX w ao n F:=by
 intro k hk
 rcases h.2 with ⟨_,h0⟩ | ⟨g,cap,cur,hv,hb,hg,h1,h2,_⟩
 ·omega
 ·simp only [Value.slice.injEq,true_and] at hv
  obtain ⟨rfl,rfl⟩:=hv
  refine ⟨g,0,rfl,?_⟩
  rw [Nat.zero_add,h.cellAt k (by omega)]
  unfold zw
  rw [List.getElem?_map,List.getElem?_range hk];rfl
theorem ce3 {w:World} {b t:Nat} {v0 v1 v2:Value} {r:List Value} (h:w.heap[b]?=some (.cells (v0 :: v1 :: v2 :: r).toArray t (0,0))):w.cell? ⟨b,0,none⟩=some v0∧w.cell? ⟨b,1,none⟩=some v1∧w.cell? ⟨b,2,none⟩=some v2:=⟨za h 0 _ rfl,za h 1 _ rfl,za h 2 _ rfl⟩
theorem fe3 {w:World} {b t:Nat} {c:Array Value} (h:w.heap[b]?=some (.cells c t (0,0))):w.frozen? ⟨b,0,none⟩=false∧w.frozen? ⟨b,1,none⟩=false∧w.frozen? ⟨b,2,none⟩=false:=⟨ze h 0,ze h 1,ze h 2⟩
theorem ce4 {w:World} {b t:Nat} {v0 v1 v2 v3:Value} {r:List Value} (h:w.heap[b]?=some (.cells (v0 :: v1 :: v2 :: v3 :: r).toArray t (0,0))):w.cell? ⟨b,0,none⟩=some v0∧w.cell? ⟨b,1,none⟩=some v1∧w.cell? ⟨b,2,none⟩=some v2∧w.cell? ⟨b,3,none⟩=some v3:=⟨za h 0 _ rfl,za h 1 _ rfl,za h 2 _ rfl,za h 3 _ rfl⟩
theorem fe4 {w:World} {b t:Nat} {c:Array Value} (h:w.heap[b]?=some (.cells c t (0,0))):w.frozen? ⟨b,0,none⟩=false∧w.frozen? ⟨b,1,none⟩=false∧w.frozen? ⟨b,2,none⟩=false∧w.frozen? ⟨b,3,none⟩=false:=⟨ze h 0,ze h 1,ze h 2,ze h 3⟩
theorem ce5 {w:World} {b t:Nat} {v0 v1 v2 v3 v4:Value} {r:List Value} (h:w.heap[b]?=some (.cells (v0 :: v1 :: v2 :: v3 :: v4 :: r).toArray t (0,0))):w.cell? ⟨b,0,none⟩=some v0∧w.cell? ⟨b,1,none⟩=some v1∧w.cell? ⟨b,2,none⟩=some v2∧w.cell? ⟨b,3,none⟩=some v3∧w.cell? ⟨b,4,none⟩=some v4:=⟨za h 0 _ rfl,za h 1 _ rfl,za h 2 _ rfl,za h 3 _ rfl,za h 4 _ rfl⟩
theorem fe5 {w:World} {b t:Nat} {c:Array Value} (h:w.heap[b]?=some (.cells c t (0,0))):w.frozen? ⟨b,0,none⟩=false∧w.frozen? ⟨b,1,none⟩=false∧w.frozen? ⟨b,2,none⟩=false∧w.frozen? ⟨b,3,none⟩=false∧w.frozen? ⟨b,4,none⟩=false:=⟨ze h 0,ze h 1,ze h 2,ze h 3,ze h 4⟩
theorem ce6 {w:World} {b t:Nat} {v0 v1 v2 v3 v4 v5:Value} {r:List Value} (h:w.heap[b]?=some (.cells (v0 :: v1 :: v2 :: v3 :: v4 :: v5 :: r).toArray t (0,0))):w.cell? ⟨b,0,none⟩=some v0∧w.cell? ⟨b,1,none⟩=some v1∧w.cell? ⟨b,2,none⟩=some v2∧w.cell? ⟨b,3,none⟩=some v3∧w.cell? ⟨b,4,none⟩=some v4∧w.cell? ⟨b,5,none⟩=some v5:=⟨za h 0 _ rfl,za h 1 _ rfl,za h 2 _ rfl,za h 3 _ rfl,za h 4 _ rfl,za h 5 _ rfl⟩
theorem fe6 {w:World} {b t:Nat} {c:Array Value} (h:w.heap[b]?=some (.cells c t (0,0))):w.frozen? ⟨b,0,none⟩=false∧w.frozen? ⟨b,1,none⟩=false∧w.frozen? ⟨b,2,none⟩=false∧w.frozen? ⟨b,3,none⟩=false∧w.frozen? ⟨b,4,none⟩=false∧w.frozen? ⟨b,5,none⟩=false:=⟨ze h 0,ze h 1,ze h 2,ze h 3,ze h 4,ze h 5⟩
theorem ce7 {w:World} {b t:Nat} {v0 v1 v2 v3 v4 v5 v6:Value} {r:List Value} (h:w.heap[b]?=some (.cells (v0 :: v1 :: v2 :: v3 :: v4 :: v5 :: v6 :: r).toArray t (0,0))):w.cell? ⟨b,0,none⟩=some v0∧w.cell? ⟨b,1,none⟩=some v1∧w.cell? ⟨b,2,none⟩=some v2∧w.cell? ⟨b,3,none⟩=some v3∧w.cell? ⟨b,4,none⟩=some v4∧w.cell? ⟨b,5,none⟩=some v5∧w.cell? ⟨b,6,none⟩=some v6:=⟨za h 0 _ rfl,za h 1 _ rfl,za h 2 _ rfl,za h 3 _ rfl,za h 4 _ rfl,za h 5 _ rfl,za h 6 _ rfl⟩
theorem fe7 {w:World} {b t:Nat} {c:Array Value} (h:w.heap[b]?=some (.cells c t (0,0))):w.frozen? ⟨b,0,none⟩=false∧w.frozen? ⟨b,1,none⟩=false∧w.frozen? ⟨b,2,none⟩=false∧w.frozen? ⟨b,3,none⟩=false∧w.frozen? ⟨b,4,none⟩=false∧w.frozen? ⟨b,5,none⟩=false∧w.frozen? ⟨b,6,none⟩=false:=⟨ze h 0,ze h 1,ze h 2,ze h 3,ze h 4,ze h 5,ze h 6⟩
theorem ce8 {w:World} {b t:Nat} {v0 v1 v2 v3 v4 v5 v6 v7:Value} {r:List Value} (h:w.heap[b]?=some (.cells (v0 :: v1 :: v2 :: v3 :: v4 :: v5 :: v6 :: v7 :: r).toArray t (0,0))):w.cell? ⟨b,0,none⟩=some v0∧w.cell? ⟨b,1,none⟩=some v1∧w.cell? ⟨b,2,none⟩=some v2∧w.cell? ⟨b,3,none⟩=some v3∧w.cell? ⟨b,4,none⟩=some v4∧w.cell? ⟨b,5,none⟩=some v5∧w.cell? ⟨b,6,none⟩=some v6∧w.cell? ⟨b,7,none⟩=some v7:=⟨za h 0 _ rfl,za h 1 _ rfl,za h 2 _ rfl,za h 3 _ rfl,za h 4 _ rfl,za h 5 _ rfl,za h 6 _ rfl,za h 7 _ rfl⟩
theorem fe8 {w:World} {b t:Nat} {c:Array Value} (h:w.heap[b]?=some (.cells c t (0,0))):w.frozen? ⟨b,0,none⟩=false∧w.frozen? ⟨b,1,none⟩=false∧w.frozen? ⟨b,2,none⟩=false∧w.frozen? ⟨b,3,none⟩=false∧w.frozen? ⟨b,4,none⟩=false∧w.frozen? ⟨b,5,none⟩=false∧w.frozen? ⟨b,6,none⟩=false∧w.frozen? ⟨b,7,none⟩=false:=⟨ze h 0,ze h 1,ze h 2,ze h 3,ze h 4,ze h 5,ze h 6,ze h 7⟩
theorem ce9 {w:World} {b t:Nat} {v0 v1 v2 v3 v4 v5 v6 v7 v8:Value} {r:List Value} (h:w.heap[b]?=some (.cells (v0 :: v1 :: v2 :: v3 :: v4 :: v5 :: v6 :: v7 :: v8 :: r).toArray t (0,0))):w.cell? ⟨b,0,none⟩=some v0∧w.cell? ⟨b,1,none⟩=some v1∧w.cell? ⟨b,2,none⟩=some v2∧w.cell? ⟨b,3,none⟩=some v3∧w.cell? ⟨b,4,none⟩=some v4∧w.cell? ⟨b,5,none⟩=some v5∧w.cell? ⟨b,6,none⟩=some v6∧w.cell? ⟨b,7,none⟩=some v7∧w.cell? ⟨b,8,none⟩=some v8:=⟨za h 0 _ rfl,za h 1 _ rfl,za h 2 _ rfl,za h 3 _ rfl,za h 4 _ rfl,za h 5 _ rfl,za h 6 _ rfl,za h 7 _ rfl,za h 8 _ rfl⟩
theorem fe9 {w:World} {b t:Nat} {c:Array Value} (h:w.heap[b]?=some (.cells c t (0,0))):w.frozen? ⟨b,0,none⟩=false∧w.frozen? ⟨b,1,none⟩=false∧w.frozen? ⟨b,2,none⟩=false∧w.frozen? ⟨b,3,none⟩=false∧w.frozen? ⟨b,4,none⟩=false∧w.frozen? ⟨b,5,none⟩=false∧w.frozen? ⟨b,6,none⟩=false∧w.frozen? ⟨b,7,none⟩=false∧w.frozen? ⟨b,8,none⟩=false:=⟨ze h 0,ze h 1,ze h 2,ze h 3,ze h 4,ze h 5,ze h 6,ze h 7,ze h 8⟩
theorem ce10 {w:World} {b t:Nat} {v0 v1 v2 v3 v4 v5 v6 v7 v8 v9:Value} {r:List Value} (h:w.heap[b]?=some (.cells (v0 :: v1 :: v2 :: v3 :: v4 :: v5 :: v6 :: v7 :: v8 :: v9 :: r).toArray t (0,0))):w.cell? ⟨b,0,none⟩=some v0∧w.cell? ⟨b,1,none⟩=some v1∧w.cell? ⟨b,2,none⟩=some v2∧w.cell? ⟨b,3,none⟩=some v3∧w.cell? ⟨b,4,none⟩=some v4∧w.cell? ⟨b,5,none⟩=some v5∧w.cell? ⟨b,6,none⟩=some v6∧w.cell? ⟨b,7,none⟩=some v7∧w.cell? ⟨b,8,none⟩=some v8∧w.cell? ⟨b,9,none⟩=some v9:=⟨za h 0 _ rfl,za h 1 _ rfl,za h 2 _ rfl,za h 3 _ rfl,za h 4 _ rfl,za h 5 _ rfl,za h 6 _ rfl,za h 7 _ rfl,za h 8 _ rfl,za h 9 _ rfl⟩
theorem fe10 {w:World} {b t:Nat} {c:Array Value} (h:w.heap[b]?=some (.cells c t (0,0))):w.frozen? ⟨b,0,none⟩=false∧w.frozen? ⟨b,1,none⟩=false∧w.frozen? ⟨b,2,none⟩=false∧w.frozen? ⟨b,3,none⟩=false∧w.frozen? ⟨b,4,none⟩=false∧w.frozen? ⟨b,5,none⟩=false∧w.frozen? ⟨b,6,none⟩=false∧w.frozen? ⟨b,7,none⟩=false∧w.frozen? ⟨b,8,none⟩=false∧w.frozen? ⟨b,9,none⟩=false:=⟨ze h 0,ze h 1,ze h 2,ze h 3,ze h 4,ze h 5,ze h 6,ze h 7,ze h 8,ze h 9⟩
theorem ce11 {w:World} {b t:Nat} {v0 v1 v2 v3 v4 v5 v6 v7 v8 v9 v10:Value} {r:List Value} (h:w.heap[b]?=some (.cells (v0 :: v1 :: v2 :: v3 :: v4 :: v5 :: v6 :: v7 :: v8 :: v9 :: v10 :: r).toArray t (0,0))):w.cell? ⟨b,0,none⟩=some v0∧w.cell? ⟨b,1,none⟩=some v1∧w.cell? ⟨b,2,none⟩=some v2∧w.cell? ⟨b,3,none⟩=some v3∧w.cell? ⟨b,4,none⟩=some v4∧w.cell? ⟨b,5,none⟩=some v5∧w.cell? ⟨b,6,none⟩=some v6∧w.cell? ⟨b,7,none⟩=some v7∧w.cell? ⟨b,8,none⟩=some v8∧w.cell? ⟨b,9,none⟩=some v9∧w.cell? ⟨b,10,none⟩=some v10:=⟨za h 0 _ rfl,za h 1 _ rfl,za h 2 _ rfl,za h 3 _ rfl,za h 4 _ rfl,za h 5 _ rfl,za h 6 _ rfl,za h 7 _ rfl,za h 8 _ rfl,za h 9 _ rfl,za h 10 _ rfl⟩
theorem fe11 {w:World} {b t:Nat} {c:Array Value} (h:w.heap[b]?=some (.cells c t (0,0))):w.frozen? ⟨b,0,none⟩=false∧w.frozen? ⟨b,1,none⟩=false∧w.frozen? ⟨b,2,none⟩=false∧w.frozen? ⟨b,3,none⟩=false∧w.frozen? ⟨b,4,none⟩=false∧w.frozen? ⟨b,5,none⟩=false∧w.frozen? ⟨b,6,none⟩=false∧w.frozen? ⟨b,7,none⟩=false∧w.frozen? ⟨b,8,none⟩=false∧w.frozen? ⟨b,9,none⟩=false∧w.frozen? ⟨b,10,none⟩=false:=⟨ze h 0,ze h 1,ze h 2,ze h 3,ze h 4,ze h 5,ze h 6,ze h 7,ze h 8,ze h 9,ze h 10⟩
theorem ce12 {w:World} {b t:Nat} {v0 v1 v2 v3 v4 v5 v6 v7 v8 v9 v10 v11:Value} {r:List Value} (h:w.heap[b]?=some (.cells (v0 :: v1 :: v2 :: v3 :: v4 :: v5 :: v6 :: v7 :: v8 :: v9 :: v10 :: v11 :: r).toArray t (0,0))):w.cell? ⟨b,0,none⟩=some v0∧w.cell? ⟨b,1,none⟩=some v1∧w.cell? ⟨b,2,none⟩=some v2∧w.cell? ⟨b,3,none⟩=some v3∧w.cell? ⟨b,4,none⟩=some v4∧w.cell? ⟨b,5,none⟩=some v5∧w.cell? ⟨b,6,none⟩=some v6∧w.cell? ⟨b,7,none⟩=some v7∧w.cell? ⟨b,8,none⟩=some v8∧w.cell? ⟨b,9,none⟩=some v9∧w.cell? ⟨b,10,none⟩=some v10∧w.cell? ⟨b,11,none⟩=some v11:=⟨za h 0 _ rfl,za h 1 _ rfl,za h 2 _ rfl,za h 3 _ rfl,za h 4 _ rfl,za h 5 _ rfl,za h 6 _ rfl,za h 7 _ rfl,za h 8 _ rfl,za h 9 _ rfl,za h 10 _ rfl,za h 11 _ rfl⟩
theorem fe12 {w:World} {b t:Nat} {c:Array Value} (h:w.heap[b]?=some (.cells c t (0,0))):w.frozen? ⟨b,0,none⟩=false∧w.frozen? ⟨b,1,none⟩=false∧w.frozen? ⟨b,2,none⟩=false∧w.frozen? ⟨b,3,none⟩=false∧w.frozen? ⟨b,4,none⟩=false∧w.frozen? ⟨b,5,none⟩=false∧w.frozen? ⟨b,6,none⟩=false∧w.frozen? ⟨b,7,none⟩=false∧w.frozen? ⟨b,8,none⟩=false∧w.frozen? ⟨b,9,none⟩=false∧w.frozen? ⟨b,10,none⟩=false∧w.frozen? ⟨b,11,none⟩=false:=⟨ze h 0,ze h 1,ze h 2,ze h 3,ze h 4,ze h 5,ze h 6,ze h 7,ze h 8,ze h 9,ze h 10,ze h 11⟩
theorem ce13 {w:World} {b t:Nat} {v0 v1 v2 v3 v4 v5 v6 v7 v8 v9 v10 v11 v12:Value} {r:List Value} (h:w.heap[b]?=some (.cells (v0 :: v1 :: v2 :: v3 :: v4 :: v5 :: v6 :: v7 :: v8 :: v9 :: v10 :: v11 :: v12 :: r).toArray t (0,0))):w.cell? ⟨b,0,none⟩=some v0∧w.cell? ⟨b,1,none⟩=some v1∧w.cell? ⟨b,2,none⟩=some v2∧w.cell? ⟨b,3,none⟩=some v3∧w.cell? ⟨b,4,none⟩=some v4∧w.cell? ⟨b,5,none⟩=some v5∧w.cell? ⟨b,6,none⟩=some v6∧w.cell? ⟨b,7,none⟩=some v7∧w.cell? ⟨b,8,none⟩=some v8∧w.cell? ⟨b,9,none⟩=some v9∧w.cell? ⟨b,10,none⟩=some v10∧w.cell? ⟨b,11,none⟩=some v11∧w.cell? ⟨b,12,none⟩=some v12:=⟨za h 0 _ rfl,za h 1 _ rfl,za h 2 _ rfl,za h 3 _ rfl,za h 4 _ rfl,za h 5 _ rfl,za h 6 _ rfl,za h 7 _ rfl,za h 8 _ rfl,za h 9 _ rfl,za h 10 _ rfl,za h 11 _ rfl,za h 12 _ rfl⟩
theorem fe13 {w:World} {b t:Nat} {c:Array Value} (h:w.heap[b]?=some (.cells c t (0,0))):w.frozen? ⟨b,0,none⟩=false∧w.frozen? ⟨b,1,none⟩=false∧w.frozen? ⟨b,2,none⟩=false∧w.frozen? ⟨b,3,none⟩=false∧w.frozen? ⟨b,4,none⟩=false∧w.frozen? ⟨b,5,none⟩=false∧w.frozen? ⟨b,6,none⟩=false∧w.frozen? ⟨b,7,none⟩=false∧w.frozen? ⟨b,8,none⟩=false∧w.frozen? ⟨b,9,none⟩=false∧w.frozen? ⟨b,10,none⟩=false∧w.frozen? ⟨b,11,none⟩=false∧w.frozen? ⟨b,12,none⟩=false:=⟨ze h 0,ze h 1,ze h 2,ze h 3,ze h 4,ze h 5,ze h 6,ze h 7,ze h 8,ze h 9,ze h 10,ze h 11,ze h 12⟩
theorem sB {α:Type _} (l:List α) (i:Nat) (a:α):l.toArray.setIfInBounds i a=(l.set i a).toArray:=List.setIfInBounds_toArray ..
theorem sZ {α:Type _} (x a:α) (l:List α):(x :: l).set 0 a=a :: l:=rfl
theorem sS {α:Type _} (x a:α) (l:List α) (n:Nat):(x :: l).set (n+1) a=x :: l.set n a:=rfl
end
section
open Go.RowKit
theorem zE {w:World} {b:Nat} {o:Obj} (h:w.heap[b]?=some o):w.drew.heap[b]?=some o:=h
structure zA (w w':World) (S:Nat→Prop):Prop where
 os:w'.os=w.os
 tape:w'.tape=w.tape
 output:w'.output=w.output
 size:w.heap.size≤w'.heap.size
 block:∀ k,k<w.heap.size→¬ S k→w'.heap[k]?=w.heap[k]?
theorem zA.refl (w:World) (S:Nat→Prop):zA w w S:=⟨rfl,rfl,rfl,Nat.le_refl _,fun _ _ _=>rfl⟩
theorem zA.trans {w w' w'':World} {S:Nat→Prop} (h:zA w w' S) (k:zA w' w'' S):zA w w'' S :=
 ⟨k.os.trans h.os,k.tape.trans h.tape,k.output.trans h.output,Nat.le_trans h.size k.size,fun i hi hs=>(k.block i (Nat.lt_of_lt_of_le hi h.size) hs).trans (h.block i hi hs)⟩
theorem zA.mono {w w':World} {S T:Nat→Prop} (h:zA w w' S) (hs:∀ k,S k→T k):zA w w' T:=⟨h.os,h.tape,h.output,h.size,fun i hi ht=>h.block i hi fun s=>ht (hs i s)⟩
theorem zA.of_below {w w':World} {S:Nat→Prop} (h:Below w.heap.size w w'):zA w w' S:=⟨h.os,h.tape,h.output,h.size,fun i hi _=>h.block i hi⟩
theorem zA.set {w w':World} {S:Nat→Prop} (h:zA w w' S) {a:Addr} (ha:S a.block) (u:Value):zA w (w'.setCell a u) S :=
 h.trans ⟨rfl,rfl,rfl,by simp,fun k _ hk=>Below.heap_setCell _ _ _ _ (fun e=>hk (e ▸ ha))⟩
theorem zA.below {B:Nat} {w0 w w':World} {S:Nat→Prop} (h0:Below B w0 w) (hB:B≤w.heap.size) (h:zA w w' S) (hS:∀ k,S k→B≤k):Below B w0 w' :=
 h0.trans ⟨h.os,h.tape,h.output,h.size,fun k hk=>h.block k (by omega) (fun s=>by have:=hS k s;omega)⟩
theorem zA.blk {w w':World} {S:Nat→Prop} (h:zA w w' S) {b:Nat} {o:Obj} (hb:w.heap[b]?=some o) (hs:¬ S b):w'.heap[b]?=some o:=(h.block b (zQ hb) hs).trans hb
theorem zA.own {w w':World} {S:Nat→Prop} (h:zA w w' S) {base e size n:Nat} {v:Value} {xs:List Value} (ho:w.ownsRow base e size v n xs) (hs:∀ g,v.ownBlock=some g→¬ S g):w'.ownsRow base e size v n xs:=by
 refine ⟨ho.1,?_⟩
 rcases ho.2 with h0 | ⟨g,cap,cur,rfl,hb,hg,rest⟩
 ·exact .inl h0
 ·exact .inr ⟨g,cap,cur,rfl,hb,h.blk hg (hs g rfl),rest⟩
theorem zp {w w':World} (h:Below w.heap.size w w') {base e size n:Nat} {v:Value} {xs:List Value} (ho:w.ownsRow base e size v n xs):w'.ownsRow base e size v n xs :=
 (zA.of_below (S:=fun _=>False) h).own ho (fun _ _ h=>h)
theorem own_apart {w:World} {b1 e1 s1 n1 b2 e2 s2 n2:Nat} {v1 v2:Value} {x1 x2:List Value} (h1:w.ownsRow b1 e1 s1 v1 n1 x1) (h2:w.ownsRow b2 e2 s2 v2 n2 x2) (hne:e1≠e2):∀ g,v1.ownBlock=some g→v2.ownBlock≠some g:=by
 intro g hg1 hg2
 rcases h1.2 with ⟨rfl,_⟩ | ⟨g1,c1,r1,rfl,_,k1,_⟩
 ·simp [Value.ownBlock] at hg1
 ·rcases h2.2 with ⟨rfl,_⟩ | ⟨g2,c2,r2,rfl,_,k2,_⟩
  ·simp [Value.ownBlock] at hg2
  ·simp only [Value.ownBlock,Option.some.injEq] at hg1 hg2
   subst hg1
   subst hg2
   rw [k1] at k2
   simp at k2
   exact hne k2.2
theorem range_set {N j:Nat} {f:Nat→Value} {u:Value}:((List.range N).map f).set j u=(List.range N).map (fun i=>if i=j then u else f i):=by
 apply List.ext_getElem?
 intro i
 rw [List.getElem?_set,List.getElem?_map,List.getElem?_map,List.length_map,List.length_range]
 by_cases hi:i<N
 ·rw [List.getElem?_range hi]
  by_cases e:j=i
  ·subst e;simp [hi]
  ·rw [if_neg e];simp [show ¬ i=j from fun h=>e h.symm]
 ·rw [List.getElem?_eq_none (l:=List.range N) (by simpa using hi)]
  by_cases e:j=i
  ·subst e;simp [hi]
  ·rw [if_neg e];rfl
theorem own_store {w:World} {base e size g n cap N:Nat} {f:Nat→Value} (h:w.ownsRow base e size (.slice (some ⟨g,0,none⟩) n cap) n ((List.range N).map f)) (j:Nat) (u:Value) :
  (w.setCell ⟨g,j,none⟩ u).ownsRow base e size (.slice (some ⟨g,0,none⟩) n cap) n ((List.range N).map (fun i=>if i=j then u else f i)):=by
 have:=(h.stored j u).1
 rwa [range_set] at this
theorem own_congr {w:World} {base e size n N:Nat} {v:Value} {f f':Nat→Value} (h:w.ownsRow base e size v n ((List.range N).map f)) (hf:∀ i,i<N→f i=f' i):w.ownsRow base e size v n ((List.range N).map f'):=by
 have:(List.range N).map f=(List.range N).map f':=List.map_congr_left fun i hi=>hf i (by simpa using hi)
 rwa [this] at h
theorem zx {w:World} {base e size g n cap N:Nat} {f:Nat→Value} (h:w.ownsRow base e size (.slice (some ⟨g,0,none⟩) n cap) n ((List.range N).map f)) (j:Nat) (hj:j<n*size) (hN:N=n*size):w.cell? ⟨g,j,none⟩=some (f j):=by
 rw [h.cellAt j hj,List.getElem?_map,List.getElem?_range (by omega)];rfl
theorem own_addr {w:World} {base e size n c:Nat} {ao:Option Addr} {xs:List Value} (h:w.ownsRow base e size (.slice ao n c) n xs) (hn:0<n):∃ g,ao=some ⟨g,0,none⟩∧base≤g∧g<w.heap.size:=by
 obtain ⟨g,cap,e,h1,h2⟩:=h.form hn
 simp only [Value.slice.injEq,true_and] at e
 exact ⟨g,e.1,h1,h2⟩
end
section
open Go.RowKit
def CodeAt (w:World) (cb:Nat) (ao:Option Addr) (n:Nat):Prop :=
 ∀ k,k<n→∃ b off v,ao=some ⟨b,off,none⟩∧b≠cb∧w.cell? ⟨b,off+k,none⟩=some (.int .u8 v)∧0≤v∧v≤255
theorem zA.cellAt {w w':World} {S:Nat→Prop} (h:zA w w' S) {a:Addr} {v:Value} (hc:w.cell? a=some v) (hs:¬ S a.block):w'.cell? a=some v:=by
 have hlt:=World.block_lt_of_cell? w _ hc
 have:=h.block a.block hlt hs
 unfold World.cell? at hc ⊢
 rw [this];exact hc
theorem CodeAt.kept {w w':World} {cb n:Nat} {ao:Option Addr} (h:CodeAt w cb ao n) (hk:zA w w' (fun b=>b=cb)):CodeAt w' cb ao n:=by
 intro k hk'
 obtain ⟨b,off,v,e,hne,hc,h1,h2⟩:=h k hk'
 exact ⟨b,off,v,e,hne,hk.cellAt hc hne,h1,h2⟩
def CurIs (w:World) (cb:Nat) (ao:Option Addr) (n c a:Nat):Prop :=
 (∃ (p:Nat) (s:Int),p≤a∧w.heap[cb]?=some (.cells #[.slice ao n c,.int .i64 p,.int .u64 s] 72 (0,0)))∧CodeAt w cb ao n
theorem CurIs.more {w:World} {cb n c a b:Nat} {ao:Option Addr} (h:CurIs w cb ao n c a) (hab:a≤b):CurIs w cb ao n c b:=by
 obtain ⟨⟨p,s,hp,hb⟩,hc⟩:=h
 exact ⟨⟨p,s,by omega,hb⟩,hc⟩
theorem and_255 (x:Int) (h0:0≤x) (h1:x<18446744073709551616):bits .and .u64 x 255=x % 256 :=
 bits_mask .u64 64 (by decide) (fun n h0 h1=>by rw [IntKind.wrap_u64];omega) 8 (by decide) x h0 h1
theorem low_byte (y:Int):∃ r:Nat,wrap64 (bits .and .u64 (IntKind.u64.wrap y / 1099511627776) 255)=(r:Int)∧r≤255:=by
 have hw:=IntKind.wrap_u64 y
 rw [and_255 _ (by rw [hw];omega) (by rw [hw];omega)]
 refine ⟨((IntKind.u64.wrap y / 1099511627776) % 256).toNat,?_,by omega⟩
 unfold wrap64
 omega
theorem cur_on {w:World} {cb n c p a k k':Nat} {ao:Option Addr} {s s':Int} (hp:p≤a) (hb:w.heap[cb]?=some (.cells #[.slice ao n c,.int .i64 p,.int .u64 s] 72 (0,0))) (hc:CodeAt w cb ao n) :
  CurIs ((((w.drewN k).setCell ⟨cb,1,none⟩ (.int .i64 ((p:Int)+1))).setCell ⟨cb,2,none⟩ (.int .u64 s')).drewN k') cb ao n c (a+1)∧zA w ((((w.drewN k).setCell ⟨cb,1,none⟩ (.int .i64 ((p:Int)+1))).setCell ⟨cb,2,none⟩ (.int .u64 s')).drewN k') (fun b=>b=cb):=by
 have e:(.int .i64 ((p:Int)+1):Value)=.int .i64 ((p+1:Nat):Int):=by simp
 have hk1:zA w (((w.drewN k).setCell ⟨cb,1,none⟩ (.int .i64 ((p:Int)+1))).setCell ⟨cb,2,none⟩ (.int .u64 s')) (fun b=>b=cb) :=
  ((zA.of_below (S:=fun b=>b=cb) (below_drewN (Below.refl _ w) k)).set (a:=⟨cb,1,none⟩) rfl _).set (a:=⟨cb,2,none⟩) rfl _
 have hk2:=hk1.trans (zA.of_below (S:=fun b=>b=cb) (below_drewN (Below.refl _ _) k'))
 have hb':(w.drewN k).heap[cb]?=some (.cells #[.slice ao n c,.int .i64 p,.int .u64 s] 72 (0,0)):=hb
 exact ⟨⟨⟨p+1,s',by omega,by rw [← e];exact zt (zt hb' 1 _) 2 _⟩,hc.kept hk2⟩,hk2⟩
set_option maxHeartbeats 800000 in
set_option maxRecDepth 100000 in
theorem next_any (cb:Nat) (ao:Option Addr) (n c a:Nat) (w:World) (ha:a≤1000000000000000000) (h:CurIs w cb ao n c a) :
  Calls Tryz.prog 96 #[.pointer (some ⟨cb,0,none⟩)] w fun e w'=>(∃ r:Nat,e=.returned (.int .i64 r)∧r≤255)∧CurIs w' cb ao n c (a+1)∧zA w w' (fun b=>b=cb):=by
 obtain ⟨⟨p,s,hp,hb⟩,hc⟩:=h
 have q0:w.cell? ⟨cb,0,none⟩=some (.slice ao n c):=za hb 0 _ rfl
 have q1:w.cell? ⟨cb,1,none⟩=some (.int .i64 p):=za hb 1 _ rfl
 have q2:w.cell? ⟨cb,2,none⟩=some (.int .u64 s):=za hb 2 _ rfl
 have f1:=ze hb 1
 have f2:=ze hb 2
 have hw1:IntKind.i64.wrap ((p:Int)+1)=(p:Int)+1:=by rw [IntKind.wrap_i64];omega
 by_cases hlt:p<n
 ·obtain ⟨b,off,v,rfl,hne,hcell,v0,v1⟩:=hc p hlt
  have d1:decide ((p:Int)<(n:Int))=true:=by simp;omega
  have d2:decide ((p:Int)+1≤(n:Int))=true:=by simp;omega
  have i1:(p:Int)<(n:Int):=by omega
  have i0:(0:Int)≤(p:Int):=by omega
  go_enter Tryz.func96,Tryz.ntmps96
  go_wp2
  go_quiet (fail)
  go_wp2
  go_quiet (fail)
  go_wp2
  go_quiet (fail)
  go_wp2
  go_ret
  exact ⟨⟨v.toNat,by rw [show ((v.toNat:Nat):Int)=v by omega];rfl,by omega⟩,cur_on hp hb hc⟩
 ·have d1:decide ((p:Int)<(n:Int))=false:=by simp;omega
  have d2:decide ((p:Int)+1≤(n:Int))=false:=by simp;omega
  go_enter Tryz.func96,Tryz.ntmps96
  go_wp2
  go_quiet (fail)
  go_wp2
  go_quiet (fail)
  go_wp2
  obtain ⟨r,hr,hr2⟩:=low_byte (IntKind.u64.wrap (IntKind.u64.wrap (s*6364136223846793005))+1442695040888963407)
  rw [hr]
  go_ret
  exact ⟨⟨r,rfl,hr2⟩,cur_on hp hb hc⟩
set_option maxHeartbeats 800000 in
theorem pick_any (cb:Nat) (ao:Option Addr) (n c a:Nat) (m:Nat) (w:World) (ha:a≤900000000000000000) (hm:1≤m) (hm2:m≤100000) (h:CurIs w cb ao n c a) :
  Calls Tryz.prog 63 #[.pointer (some ⟨cb,0,none⟩),.int .i64 m] w fun e w'=>(∃ r:Nat,e=.returned (.int .i64 r)∧r<m)∧CurIs w' cb ao n c (a+2)∧zA w w' (fun b=>b=cb):=by
 by_cases h1:m=1
 ·subst h1
  go_enter Tryz.func63,Tryz.ntmps63
  go_wp2
  go_ret
  exact ⟨⟨0,rfl,by omega⟩,h.more (by omega),zA.refl _ _⟩
 ·have d1:decide ((m:Int)≤1)=false:=by simp;omega
  have m0:¬ ((m:Int)=0):=by omega
  go_enter Tryz.func63,Tryz.ntmps63
  go_wp2_with fail
  refine (next_any cb ao n c a _ (by omega) h).mono ?_
  rintro e w1 ⟨⟨r,rfl,hr⟩,hc1,hk1⟩
  by_cases h2:200<m
  ·have d2:decide ((200:Int)<(m:Int))=true:=by simp;omega
   go_wp2_with fail
   refine (next_any cb ao n c (a+1) _ (by omega) hc1).mono ?_
   rintro e w2 ⟨⟨r2,rfl,hr2⟩,hc2,hk2⟩
   have hw:IntKind.i64.wrap ((r:Int)*256+(r2:Int))=((r*256+r2:Nat):Int):=by rw [IntKind.wrap_i64];omega
   go_wp2
   go_ret
   exact ⟨⟨(r*256+r2) % m,by simp [Int.natCast_emod],Nat.mod_lt _ (by omega)⟩,hc2,hk1.trans hk2⟩
  ·have d2:decide ((200:Int)<(m:Int))=false:=by simp;omega
   go_wp2
   go_ret
   exact ⟨⟨r % m,by simp [Int.natCast_emod],Nat.mod_lt _ (by omega)⟩,hc1.more (by omega),hk1⟩
theorem one_any (cb:Nat) (ao:Option Addr) (n c a:Nat) (m:Nat) (w:World) (ha:a≤900000000000000000) (hm:1≤m) (hm2:m≤100000) (h:CurIs w cb ao n c a) :
  Calls Tryz.prog 64 #[.pointer (some ⟨cb,0,none⟩),.int .i64 m] w fun e w'=>(∃ b:Bool,e=.returned (.bool b))∧CurIs w' cb ao n c (a+2)∧zA w w' (fun b=>b=cb):=by
 go_enter Tryz.func64,Tryz.ntmps64
 go_wp2_with fail
 refine (pick_any cb ao n c a m _ ha hm hm2 h).mono ?_
 rintro e w1 ⟨⟨r,rfl,hr⟩,hc1,hk1⟩
 cases hd:((r:Int) == 0) with
 | true =>
  go_wp2
  go_ret
  exact ⟨⟨_,rfl⟩,hc1,hk1⟩
 | false =>
  go_wp2
  go_ret
  exact ⟨⟨_,rfl⟩,hc1,hk1⟩
end
section
def steps (h:Nat→Nat):Nat→Nat→Nat
 | 0,s=>s
 | n+1,s=>steps h n (h s)
theorem steps_add (h:Nat→Nat) (m n s:Nat):steps h (m+n) s=steps h n (steps h m s):=by
 induction m generalizing s with
 | zero=>simp [steps]
 | succ m ih=>rw [show m+1+n=m+n+1 by omega];exact ih (h s)
def aff (p:Nat × Nat) (s:Nat):Nat:=(p.1*s+p.2) % 18446744073709551616
def dbl (p:Nat × Nat):Nat × Nat:=(p.1*p.1 % 18446744073709551616,(p.1*p.2+p.2) % 18446744073709551616)
def dbls:Nat→Nat × Nat→Nat × Nat
 | 0,p=>p
 | k+1,p=>dbls k (dbl p)
theorem aff_dbl (p:Nat × Nat) (s:Nat):aff p (aff p s)=aff (dbl p) s:=by
 unfold aff dbl
 simp only
 rw [Nat.add_mod,Nat.mul_mod,Nat.mod_mod,← Nat.mul_mod,← Nat.add_mod]
 conv=>rhs;rw [Nat.add_mod,Nat.mod_mul_mod,Nat.mod_mod,← Nat.add_mod]
 congr 1
 rw [Nat.mul_add,Nat.mul_assoc]
 omega
theorem steps_dbl {h:Nat→Nat} {n:Nat} {p:Nat × Nat} (hp:∀ s,steps h n s=aff p s):∀ s,steps h (n+n) s=aff (dbl p) s:=by
 intro s
 rw [steps_add,hp,hp,aff_dbl]
theorem steps_dbls {h:Nat→Nat}:∀ (k n:Nat) (p:Nat × Nat),(∀ s,steps h n s=aff p s)→∀ s,steps h (n*2 ^ k) s=aff (dbls k p) s:=by
 intro k
 induction k with
 | zero=>intro n p hp s;simpa [dbls] using hp s
 | succ k ih =>
  intro n p hp s
  have:=ih (n+n) (dbl p) (steps_dbl hp) s
  rw [show n*2 ^ (k+1)=(n+n)*2 ^ k by rw [Nat.pow_succ,← Nat.two_mul n];rw [Nat.mul_comm (2 ^ k) 2,← Nat.mul_assoc,Nat.mul_comm n 2]]
  exact this
def lcgOf (a c s:Nat):Nat:=(s*a+c) % 18446744073709551616
theorem lcgOf_aff (a c s:Nat):lcgOf a c s=aff (a,c) s:=by
 unfold lcgOf aff
 rw [Nat.mul_comm s]
theorem twice_aff (a c s:Nat):steps (fun x=>lcgOf a c (lcgOf a c x)) 1 s=aff (dbl (a,c)) s:=by
 rw [← aff_dbl,← lcgOf_aff,← lcgOf_aff]
 rfl
theorem aff_eq (x y s:Nat):aff (x,y) s=(x*s+y) % 18446744073709551616:=rfl
theorem turns_of {x y k1 k2:Nat} (hx:x=1+2199023255552*k1) (hy:y=1099511627776+2199023255552*k2) (s:Nat):(aff (x,y) s / 1099511627776) % 2≠(s / 1099511627776) % 2:=by
 rw [aff_eq]
 have hV:x*s+y=s+1099511627776+2199023255552*(k1*s+k2):=by
  rw [hx,hy,Nat.add_mul,Nat.one_mul,Nat.mul_add,Nat.mul_assoc];omega
 rw [hV]
 generalize k1*s+k2=t
 omega
theorem turns_39 {a c x y k1 k2:Nat} (he:dbls 39 (dbl (a,c))=(x,y)) (hx:x=1+2199023255552*k1) (hy:y=1099511627776+2199023255552*k2) (s:Nat):(steps (fun x=>lcgOf a c (lcgOf a c x)) (1*2 ^ 39) s / 1099511627776) % 2≠(s / 1099511627776) % 2:=by
 rw [steps_dbls 39 1 _ (twice_aff a c) s,he]
 exact turns_of hx hy s
theorem dbls_are:dbls 39 (dbl (6364136223846793005,1442695040888963407))=(8598326064743186433,6294630401738539008):=by decide +kernel
theorem turns_gen {h:Nat→Nat} {a c x y k1 k2:Nat} (hh:∀ s,h s=lcgOf a c (lcgOf a c s)) (he:dbls 39 (dbl (a,c))=(x,y)) (hx:x=1+2199023255552*k1) (hy:y=1099511627776+2199023255552*k2):∃ N,N≤549755813888∧∀ s,(steps h N s / 1099511627776) % 2≠(s / 1099511627776) % 2:=by
 have e:h=fun x=>lcgOf a c (lcgOf a c x):=funext hh
 subst e
 exact ⟨_,by decide +kernel,turns_39 he hx hy⟩
def lcg (s:Nat):Nat:=lcgOf 6364136223846793005 1442695040888963407 s
def lcgTwo (s:Nat):Nat:=lcg (lcg s)
theorem lcgTwo_is (s:Nat):lcgTwo s=lcgOf 6364136223846793005 1442695040888963407 (lcgOf 6364136223846793005 1442695040888963407 s):=by
 simp only [lcgTwo,lcg]
theorem turns_ex:∃ N,N≤549755813888∧∀ s,(steps lcgTwo N s / 1099511627776) % 2≠(s / 1099511627776) % 2 :=
 turns_gen (k1:=3910066) (k2:=2862466) lcgTwo_is dbls_are (by decide +kernel) (by decide +kernel)
end
end Go.Proofs.YtgmdnkngnhkgbaaGreat

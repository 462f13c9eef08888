import Derived.WalkKit
import Derived.Below
import Derived.WalkSpells
import Derived.WalkSmall
import Derived.Deep.OwnRows
import Derived.Deep.AppendLies
import Derived.Laws.AppendOwnNone
import Derived.Deep.QuietTactic
import Derived.BigQuiet
import Derived.Test.YtmdnjgihooflfaaGreatDoorRows
import Derived.Deep.RegionHeld3
import Derived.Deep.LoopGhost
import Derived.Deep.DeepCutAuto
import Derived.Deep.RegionLawGrows
namespace Go.Proofs.YtmdnjgihooflfaaGreatDoor
open Go.RowKit
open Go.Value (int)
open Go.IntKind (i64)
open _root_.Go.Proofs.Tryz
set_option maxHeartbeats 64000000
set_option maxRecDepth 1000000
variable{w w':World}{a d:Option Addr}{n g t b k i e size c sz N m j:Nat}{o:Obj}{f:Nat->Value}{α:Type}{v v0 v1 v2 v3 v4 v5 v6 v7:Value}{F:Nat->Int}{r:List Value}{S:Nat->Prop}{P:Program}{x cl q pe len hei be:Int}{all:Bool}
section
theorem dN {B:Nat} {a w:World} (h:Below B a w) (n:Nat):Below B a (w.drewN n):=h.trans ⟨rfl,rfl,rfl,Nat.le_refl _,λ_ _=>rfl⟩
theorem hY {p:Prop} (h:p):Hid p:=h
theorem bZ {n:Nat} {w:World}:Below n w w:=Below.refl n w
theorem sC {P:Program} {f:FuncId} {a:Array Value} {w:World} {r:Ending} {Q:Ending→World→Prop} (h:Calls P f a w λe w'=>e=r∧w'=w) (q:Q r w):Calls P f a w Q:=h.mono (by rintro e w' ⟨rfl,b⟩;subst b;exact q)
instance (w:World):CoeDep World w Nat:=⟨w.heap.size⟩
theorem oM {P:Prop}(h:P:=by omega):P:=h
theorem dC {P:Prop}(h:P:=by decide):P:=h
theorem kR {P:Prop}(h:P:=by kernel_rfl):P:=h
theorem sM {P:Prop}(h:P:=by simp):P:=h
theorem dF {p:Prop} [d:Decidable p] (h:¬ p:=by omega):decide p=false:=decide_eq_false h
theorem dT {p:Prop} [d:Decidable p] (h:p:=by omega):decide p=true:=decide_eq_true h
theorem nM {α:Sort _}(t:α):∃ q,q=t:=⟨t,rfl⟩
theorem wR (x:Int)(h:-9223372036854775808<=x/\x<9223372036854775808:=by omega):IntKind.i64.wrap x=x:=by rw[IntKind.wrap_i64];omega
theorem n0 (k:Nat):(0:Int)<=(k:Int):=by omega
theorem bM {P:Program}{f:FuncId}{a:Array Value}{w:World}{r:Ending}{B:World->Prop}{Q:Ending->World->Prop}(h:Calls P f a w λe w'=>e=r/\B w')(k:∀ w',B w'->Q r w'):Calls P f a w Q:=h.mono (by rintro e w' ⟨rfl,b⟩;exact k w' b)
theorem bC {w:World}{b t:Nat}{cs:Array Value}(h:w.heap[b]?=some (.cells cs t (0,0)))(i:Nat){v:Value}(a:cs[i]?=some v:=by exact rfl):w.cell? ⟨b,i,none⟩=some v:=by
 simp[World.cell?,h,a]
theorem dB {n:Nat}{w w':World}(h:Below n w w':=by repeat(first|exact bZ|refine Below.drew ?_|refine(λh=>Below.alloc h h.size _) ?_|assumption|exact Hid.out (by assumption))):Below n w w':=h
section
variable {n b i0 i1 i2 i3 i4 i5 i6 i7 i8 i9 i10 i11 i12 : Nat} {w w' : World} {v0 v1 v2 v3 v4 v5 v6 v7 v8 v9 v10 v11 v12 : Option Value}
theorem tR {p:Addr}(h:Below n w w')(f:w.cell? p=v0)(l:p.block<n):w'.cell? p=v0:=(h.cell (p:=p) l).trans f
theorem tR3 (h:Below n w w')(a:w.cell? ⟨b,i0,none⟩=v0)(c:w.cell? ⟨b,i1,none⟩=v1)(d:w.cell? ⟨b,i2,none⟩=v2)(l:b<n):w'.cell? ⟨b,i0,none⟩=v0/\w'.cell? ⟨b,i1,none⟩=v1/\w'.cell? ⟨b,i2,none⟩=v2:=⟨tR h a l,tR h c l,tR h d l⟩
theorem OP (h:Below n w w')(a:w.cell? ⟨b,i0,none⟩=v0)(c:w.cell? ⟨b,i1,none⟩=v1)(d:w.cell? ⟨b,i2,none⟩=v2)(f3:w.cell? ⟨b,i3,none⟩=v3)(l:b<n):w'.cell? ⟨b,i0,none⟩=v0/\w'.cell? ⟨b,i1,none⟩=v1/\w'.cell? ⟨b,i2,none⟩=v2/\w'.cell? ⟨b,i3,none⟩=v3:=⟨tR h a l,tR h c l,tR h d l,tR h f3 l⟩
theorem tR5 (h:Below n w w')(a:w.cell? ⟨b,i0,none⟩=v0)(c:w.cell? ⟨b,i1,none⟩=v1)(d:w.cell? ⟨b,i2,none⟩=v2)(f3:w.cell? ⟨b,i3,none⟩=v3)(e:w.cell? ⟨b,i4,none⟩=v4)(l:b<n):w'.cell? ⟨b,i0,none⟩=v0/\w'.cell? ⟨b,i1,none⟩=v1/\w'.cell? ⟨b,i2,none⟩=v2/\w'.cell? ⟨b,i3,none⟩=v3/\w'.cell? ⟨b,i4,none⟩=v4:=⟨tR h a l,tR h c l,tR h d l,tR h f3 l,tR h e l⟩
theorem tR6 (h:Below n w w')(a:w.cell? ⟨b,i0,none⟩=v0)(c:w.cell? ⟨b,i1,none⟩=v1)(d:w.cell? ⟨b,i2,none⟩=v2)(f3:w.cell? ⟨b,i3,none⟩=v3)(e:w.cell? ⟨b,i4,none⟩=v4)(f:w.cell? ⟨b,i5,none⟩=v5)(l:b<n):w'.cell? ⟨b,i0,none⟩=v0/\w'.cell? ⟨b,i1,none⟩=v1/\w'.cell? ⟨b,i2,none⟩=v2/\w'.cell? ⟨b,i3,none⟩=v3/\w'.cell? ⟨b,i4,none⟩=v4/\w'.cell? ⟨b,i5,none⟩=v5:=⟨tR h a l,tR h c l,tR h d l,tR h f3 l,tR h e l,tR h f l⟩
theorem tR7 (h:Below n w w')(a:w.cell? ⟨b,i0,none⟩=v0)(c:w.cell? ⟨b,i1,none⟩=v1)(d:w.cell? ⟨b,i2,none⟩=v2)(f3:w.cell? ⟨b,i3,none⟩=v3)(e:w.cell? ⟨b,i4,none⟩=v4)(f:w.cell? ⟨b,i5,none⟩=v5)(g:w.cell? ⟨b,i6,none⟩=v6)(l:b<n):w'.cell? ⟨b,i0,none⟩=v0/\w'.cell? ⟨b,i1,none⟩=v1/\w'.cell? ⟨b,i2,none⟩=v2/\w'.cell? ⟨b,i3,none⟩=v3/\w'.cell? ⟨b,i4,none⟩=v4/\w'.cell? ⟨b,i5,none⟩=v5/\w'.cell? ⟨b,i6,none⟩=v6:=⟨tR h a l,tR h c l,tR h d l,tR h f3 l,tR h e l,tR h f l,tR h g l⟩
theorem OR (h:Below n w w')(a:w.cell? ⟨b,i0,none⟩=v0)(c:w.cell? ⟨b,i1,none⟩=v1)(d:w.cell? ⟨b,i2,none⟩=v2)(f3:w.cell? ⟨b,i3,none⟩=v3)(e:w.cell? ⟨b,i4,none⟩=v4)(f:w.cell? ⟨b,i5,none⟩=v5)(g:w.cell? ⟨b,i6,none⟩=v6)(i:w.cell? ⟨b,i7,none⟩=v7)(l:b<n):w'.cell? ⟨b,i0,none⟩=v0/\w'.cell? ⟨b,i1,none⟩=v1/\w'.cell? ⟨b,i2,none⟩=v2/\w'.cell? ⟨b,i3,none⟩=v3/\w'.cell? ⟨b,i4,none⟩=v4/\w'.cell? ⟨b,i5,none⟩=v5/\w'.cell? ⟨b,i6,none⟩=v6/\w'.cell? ⟨b,i7,none⟩=v7:=⟨tR h a l,tR h c l,tR h d l,tR h f3 l,tR h e l,tR h f l,tR h g l,tR h i l⟩
theorem tR9 (h:Below n w w')(a:w.cell? ⟨b,i0,none⟩=v0)(c:w.cell? ⟨b,i1,none⟩=v1)(d:w.cell? ⟨b,i2,none⟩=v2)(f3:w.cell? ⟨b,i3,none⟩=v3)(e:w.cell? ⟨b,i4,none⟩=v4)(f:w.cell? ⟨b,i5,none⟩=v5)(g:w.cell? ⟨b,i6,none⟩=v6)(i:w.cell? ⟨b,i7,none⟩=v7)(j:w.cell? ⟨b,i8,none⟩=v8)(l:b<n):w'.cell? ⟨b,i0,none⟩=v0/\w'.cell? ⟨b,i1,none⟩=v1/\w'.cell? ⟨b,i2,none⟩=v2/\w'.cell? ⟨b,i3,none⟩=v3/\w'.cell? ⟨b,i4,none⟩=v4/\w'.cell? ⟨b,i5,none⟩=v5/\w'.cell? ⟨b,i6,none⟩=v6/\w'.cell? ⟨b,i7,none⟩=v7/\w'.cell? ⟨b,i8,none⟩=v8:=⟨tR h a l,tR h c l,tR h d l,tR h f3 l,tR h e l,tR h f l,tR h g l,tR h i l,tR h j l⟩
theorem tR10 (h:Below n w w')(a:w.cell? ⟨b,i0,none⟩=v0)(c:w.cell? ⟨b,i1,none⟩=v1)(d:w.cell? ⟨b,i2,none⟩=v2)(f3:w.cell? ⟨b,i3,none⟩=v3)(e:w.cell? ⟨b,i4,none⟩=v4)(f:w.cell? ⟨b,i5,none⟩=v5)(g:w.cell? ⟨b,i6,none⟩=v6)(i:w.cell? ⟨b,i7,none⟩=v7)(j:w.cell? ⟨b,i8,none⟩=v8)(k:w.cell? ⟨b,i9,none⟩=v9)(l:b<n):w'.cell? ⟨b,i0,none⟩=v0/\w'.cell? ⟨b,i1,none⟩=v1/\w'.cell? ⟨b,i2,none⟩=v2/\w'.cell? ⟨b,i3,none⟩=v3/\w'.cell? ⟨b,i4,none⟩=v4/\w'.cell? ⟨b,i5,none⟩=v5/\w'.cell? ⟨b,i6,none⟩=v6/\w'.cell? ⟨b,i7,none⟩=v7/\w'.cell? ⟨b,i8,none⟩=v8/\w'.cell? ⟨b,i9,none⟩=v9:=⟨tR h a l,tR h c l,tR h d l,tR h f3 l,tR h e l,tR h f l,tR h g l,tR h i l,tR h j l,tR h k l⟩
theorem tR11 (h:Below n w w')(c:w.cell? ⟨b,i0,none⟩=v0)(d:w.cell? ⟨b,i1,none⟩=v1)(e:w.cell? ⟨b,i2,none⟩=v2)(f3:w.cell? ⟨b,i3,none⟩=v3)(f:w.cell? ⟨b,i4,none⟩=v4)(g:w.cell? ⟨b,i5,none⟩=v5)(i:w.cell? ⟨b,i6,none⟩=v6)(j:w.cell? ⟨b,i7,none⟩=v7)(k:w.cell? ⟨b,i8,none⟩=v8)(m:w.cell? ⟨b,i9,none⟩=v9)(a:w.cell? ⟨b,i10,none⟩=v10)(l:b<n):w'.cell? ⟨b,i0,none⟩=v0/\w'.cell? ⟨b,i1,none⟩=v1/\w'.cell? ⟨b,i2,none⟩=v2/\w'.cell? ⟨b,i3,none⟩=v3/\w'.cell? ⟨b,i4,none⟩=v4/\w'.cell? ⟨b,i5,none⟩=v5/\w'.cell? ⟨b,i6,none⟩=v6/\w'.cell? ⟨b,i7,none⟩=v7/\w'.cell? ⟨b,i8,none⟩=v8/\w'.cell? ⟨b,i9,none⟩=v9/\w'.cell? ⟨b,i10,none⟩=v10:=⟨tR h c l,tR h d l,tR h e l,tR h f3 l,tR h f l,tR h g l,tR h i l,tR h j l,tR h k l,tR h m l,tR h a l⟩
theorem tR12 (h:Below n w w')(d:w.cell? ⟨b,i0,none⟩=v0)(e:w.cell? ⟨b,i1,none⟩=v1)(f:w.cell? ⟨b,i2,none⟩=v2)(f3:w.cell? ⟨b,i3,none⟩=v3)(g:w.cell? ⟨b,i4,none⟩=v4)(i:w.cell? ⟨b,i5,none⟩=v5)(j:w.cell? ⟨b,i6,none⟩=v6)(k:w.cell? ⟨b,i7,none⟩=v7)(m:w.cell? ⟨b,i8,none⟩=v8)(o:w.cell? ⟨b,i9,none⟩=v9)(a:w.cell? ⟨b,i10,none⟩=v10)(c:w.cell? ⟨b,i11,none⟩=v11)(l:b<n):w'.cell? ⟨b,i0,none⟩=v0/\w'.cell? ⟨b,i1,none⟩=v1/\w'.cell? ⟨b,i2,none⟩=v2/\w'.cell? ⟨b,i3,none⟩=v3/\w'.cell? ⟨b,i4,none⟩=v4/\w'.cell? ⟨b,i5,none⟩=v5/\w'.cell? ⟨b,i6,none⟩=v6/\w'.cell? ⟨b,i7,none⟩=v7/\w'.cell? ⟨b,i8,none⟩=v8/\w'.cell? ⟨b,i9,none⟩=v9/\w'.cell? ⟨b,i10,none⟩=v10/\w'.cell? ⟨b,i11,none⟩=v11:=⟨tR h d l,tR h e l,tR h f l,tR h f3 l,tR h g l,tR h i l,tR h j l,tR h k l,tR h m l,tR h o l,tR h a l,tR h c l⟩
theorem tR13 (h:Below n w w')(e:w.cell? ⟨b,i0,none⟩=v0)(f:w.cell? ⟨b,i1,none⟩=v1)(g:w.cell? ⟨b,i2,none⟩=v2)(f3:w.cell? ⟨b,i3,none⟩=v3)(i:w.cell? ⟨b,i4,none⟩=v4)(j:w.cell? ⟨b,i5,none⟩=v5)(k:w.cell? ⟨b,i6,none⟩=v6)(m:w.cell? ⟨b,i7,none⟩=v7)(o:w.cell? ⟨b,i8,none⟩=v8)(p:w.cell? ⟨b,i9,none⟩=v9)(a:w.cell? ⟨b,i10,none⟩=v10)(c:w.cell? ⟨b,i11,none⟩=v11)(d:w.cell? ⟨b,i12,none⟩=v12)(l:b<n):w'.cell? ⟨b,i0,none⟩=v0/\w'.cell? ⟨b,i1,none⟩=v1/\w'.cell? ⟨b,i2,none⟩=v2/\w'.cell? ⟨b,i3,none⟩=v3/\w'.cell? ⟨b,i4,none⟩=v4/\w'.cell? ⟨b,i5,none⟩=v5/\w'.cell? ⟨b,i6,none⟩=v6/\w'.cell? ⟨b,i7,none⟩=v7/\w'.cell? ⟨b,i8,none⟩=v8/\w'.cell? ⟨b,i9,none⟩=v9/\w'.cell? ⟨b,i10,none⟩=v10/\w'.cell? ⟨b,i11,none⟩=v11/\w'.cell? ⟨b,i12,none⟩=v12:=⟨tR h e l,tR h f l,tR h g l,tR h f3 l,tR h i l,tR h j l,tR h k l,tR h m l,tR h o l,tR h p l,tR h a l,tR h c l,tR h d l⟩
end
end
abbrev Ja:=@World.block_lt_of_cell?
abbrev Jb:=@heap_alloc_new
abbrev Jc:=@decide_eq_false
abbrev Jd:=@decide_eq_true
abbrev Je:=@if_neg
abbrev Jf:=@if_pos
abbrev Jg:=@Exists.intro
abbrev Jh:=@Below.drew
abbrev Ji:=@Below.refl
abbrev Jj:=@bodyPost_ret
abbrev Jk:=@IntKind.wrap_i64
abbrev Jl:=@wpQuiet_nil
abbrev Jm:=@Calls.mono
abbrev Jn:=@World.ownsRow.frozenAt
abbrev Jo:=@World.news_of_block
abbrev Jp:=@Nat.le_trans
abbrev Jq:=@Nat.zero_le
abbrev Jr:=@Nat.le_refl
abbrev Js:=@of_decide_eq_true
theorem hI {p:Prop}(h:p):Hid p:=h
def zS (w:World)(a:Option Addr)(n:Nat)(f:Nat->Int):Prop :=
 ∀ k,k<n->∃ b off,a=some ⟨b,off,none⟩/\w.cell? ⟨b,off+k,none⟩=some (int i64 (f k))
theorem zS.j0 {f:Nat->Int}(h:zS w a n f)(d:Below w w w'):zS w' a n f:=by
 intro k g;obtain⟨b,off,e,c⟩:=h k g;exact⟨b,off,e,(d.cell (Ja w _ c)).trans c⟩
theorem zS.k1 {f:Nat->Int}(h:w.rowIs g t n (λk=>int i64 (f k))):zS w (some ⟨g,0,none⟩) n f:=by
 intro k hk;exact⟨g,0,rfl,by rw[Nat.zero_add];exact h.cell oM⟩
theorem zd (h:Below w w w')(o:Obj):Below w w (w'.alloc o):=h.alloc h.size o
theorem zb {a:World}(h:Below w w w')(k:Below w' w' a):Below w w a:=h.trans (k.mono h.size)
/-! A block that is known Zw. -/
theorem zf {cs:Array Value}(h:w.heap[b]?=some (.cells cs t (0,0)))(i:Nat)(v:Value)(a:cs[i]?=some v):w.cell? ⟨b,i,none⟩=some v:=by
 simp[World.cell?,h,a]
theorem zc {cs:Array Value}(h:w.heap[b]?=some (.cells cs t (0,0)))(i:Nat):w.frozen? ⟨b,i,none⟩=false:=by
 simp[World.frozen?,h]
theorem zD (h:w.heap[b]?=some o):b<w.heap.size:=(Array.getElem?_eq_some_iff.1 h).1
theorem zk {cs:Array Value}(h:w.heap[b]?=some (.cells cs t (0,0)))(i:Nat)(v:Value):(w.setCell ⟨b,i,none⟩ v).heap[b]?=some (.cells (cs.setIfInBounds i v) t (0,0)):=by
 simp[World.setCell,Array.getElem?_modify,h]
theorem zG {b':Nat}(h:w.heap[b]?=some o)(i:Nat)(v:Value)(a:b≠b'):(w.setCell ⟨b',i,none⟩ v).heap[b]?=some o :=
 (Below.heap_setCell w ⟨b',i,none⟩ v b a).trans h
theorem zg (h:w.heap[b]?=some o)(a:Obj):(w.alloc a).heap[b]?=some o:=(Below.heap_alloc w a b (zD h)).trans h
theorem za (h:w.heap[b]?=some o)(a:Below w w w'):w'.heap[b]?=some o:=(a.block b (zD h)).trans h
theorem qo (h:w.rowIs b t n f)(a:Below w w w'):w'.rowIs b t n f:=h.of_block (a.block _ h.lt)
def QM {α:Type}(k:Nat)(f:Nat->α)(z:α)(i:Nat):α:=if i<k then f i else z
theorem qi (f:Nat->α)(z:α)(h:i<k):QM k f z i=f i:=Jf h
theorem BU (f:Nat->α)(z:α)(h:¬ i<k):QM k f z i=z:=Je h
theorem QJ (f:Nat->α)(z:α)(k j:Nat)(h:j≠k):QM (k+1) f z j=QM k f z j:=by
 unfold QM;by_cases h2:j<k
 ·rw[Jf h2,Jf oM]
 ·rw[Je h2,Je oM]
theorem ZW {base:Nat}{c:List Value}(h:w.ownsRow base e size (.slice (some ⟨g,0,none⟩) n n) n c):w.rowIs g e (n*size) (λj=>c.getD j (.bool false)):=by
 rcases h.2 with⟨b,_⟩|⟨g',f,a,b,_,k,_,_,o,p⟩
 ·cases b
 ·simp only[Value.slice.injEq,Option.some.injEq,Addr.mk.injEq,and_true,true_and] at b
  obtain⟨rfl,rfl⟩:=b;refine⟨a,k,o,λi l=>?_⟩
  have d:a.toList[i]?=c[i]?:=by rw[← p,List.getElem?_take,Jf l]
  have m:i<a.size:=oM;simp only[Array.getElem?_toList] at d
  show _=some (c.getD i _)
  rw[List.getD_eq_getElem?_getD,← d,Array.getElem?_eq_getElem m]
  rfl
theorem MP {c:World}{row:Option Nat}(d:w.grownBy c row)(h:w.heap[b]?=some o)(a:some b≠row):c.heap[b]?=some o:=(d.block b (zD h) a).trans h
def qp (F:Nat->Int)(n:Nat):List Value:=(List.range n).map (λk=>int i64 (F k))
theorem Gp (F:Nat->Int)(k:Nat):qp F (k+1)=qp F k++[int i64 (F k)]:=by
 unfold qp;rw[List.range_succ,List.map_append];rfl
theorem Dr (F:Nat->Int)(n j:Nat)(u:Value)(h:(qp F n)[j]?=some u):j<n/\u=int i64 (F j):=by
 unfold qp at h;rw[List.getElem?_map] at h
 by_cases hj:j<n
 ·rw[List.getElem?_range hj] at h;simp at h;exact⟨hj,h.symm⟩
 ·rw[List.getElem?_eq_none (by simpa using hj)] at h;cases h
theorem Az (F:Nat->Int)(n:Nat):∀ u ∈ qp F n,u.oneCell'=true:=by
 intro u a;unfold qp at a;simp only[List.mem_map] at a;obtain⟨j,_,rfl⟩:=a
 rfl
theorem Qy (F:Nat->Int)(n:Nat):(qp F n).length=n:=by simp[qp]
theorem zo {base a:Nat}{d:List Value}(h:w.ownsRow base e size v n d)(i:a<=base):w.ownsRow a e size v n d:=by
 refine⟨h.1,?_⟩
 rcases h.2 with f|⟨g,b,c,j,h1,rest⟩
 ·exact .inl f
 ·exact .inr ⟨g,b,c,j,Jp i h1,rest⟩
theorem ZR {base:Nat}{b:List Value}(h:w.ownsRow base e size v n b){a:Addr}(c:a.block<base)(u:Value):(w.setCell a u).ownsRow base e size v n b:=ownsRow_setCell_below h c u
theorem zn {base:Nat}{d:List Value}(h:w.ownsRow base e size v n d):∃ ao c,v=.slice ao n c/\n<=c/\c<=maxLen/\(ao=none->n=0/\c=0):=by
 rcases h.2 with⟨rfl,rfl⟩|⟨g,a,b,rfl,hb,hg,h1,h2,_⟩
 ·exact⟨_,0,rfl,Jr _,Jq _,λ_=>⟨rfl,rfl⟩⟩
 ·exact⟨_,a,rfl,h1,h2,λh=>by cases h⟩
theorem Bo {base:Nat}(h:w.ownsRow base e 1 (.slice a n c) n (qp F n)):zS w a n F:=by
 intro k i
 rcases h.2 with⟨_,h0⟩|⟨g,d,f,b,hb,hg,h1,h2,_⟩
 ·omega
 ·simp only[Value.slice.injEq,true_and] at b
  obtain⟨rfl,rfl⟩:=b;refine⟨g,0,rfl,?_⟩;rw[Nat.zero_add,h.cellAt k oM];unfold qp;rw[List.getElem?_map,List.getElem?_range i];rfl
theorem TD (f:Nat->α)(z:α)(k j:Nat):(if j=k then f k else if j<k then f j else z)=if j<k+1 then f j else z:=by
 by_cases h:j=k
 ·subst h;simp
 ·by_cases h2:j<k
  ·rw[Je h,Jf h2,Jf oM]
  ·rw[Je h,Je h2,Je oM]
theorem ZE (h:w.heap[b]?=some (.cells (v0 :: v1 :: v2 :: r).toArray t (0,0))):w.cell? ⟨b,0,none⟩=some v0/\w.cell? ⟨b,1,none⟩=some v1/\w.cell? ⟨b,2,none⟩=some v2:=⟨zf h 0 _ rfl,zf h 1 _ rfl,zf h 2 _ rfl⟩
theorem FM {c:Array Value}(h:w.heap[b]?=some (.cells c t (0,0))):w.frozen? ⟨b,0,none⟩=false/\w.frozen? ⟨b,1,none⟩=false/\w.frozen? ⟨b,2,none⟩=false:=⟨zc h 0,zc h 1,zc h 2⟩
theorem Qk (h:w.heap[b]?=some (.cells (v0 :: v1 :: v2 :: v3 :: r).toArray t (0,0))):w.cell? ⟨b,0,none⟩=some v0/\w.cell? ⟨b,1,none⟩=some v1/\w.cell? ⟨b,2,none⟩=some v2/\w.cell? ⟨b,3,none⟩=some v3:=⟨zf h 0 _ rfl,zf h 1 _ rfl,zf h 2 _ rfl,zf h 3 _ rfl⟩
theorem EV {c:Array Value}(h:w.heap[b]?=some (.cells c t (0,0))):w.frozen? ⟨b,0,none⟩=false/\w.frozen? ⟨b,1,none⟩=false/\w.frozen? ⟨b,2,none⟩=false/\w.frozen? ⟨b,3,none⟩=false:=⟨zc h 0,zc h 1,zc h 2,zc h 3⟩
theorem nk (h:w.heap[b]?=some (.cells (v0 :: v1 :: v2 :: v3 :: v4 :: r).toArray t (0,0))):w.cell? ⟨b,0,none⟩=some v0/\w.cell? ⟨b,1,none⟩=some v1/\w.cell? ⟨b,2,none⟩=some v2/\w.cell? ⟨b,3,none⟩=some v3/\w.cell? ⟨b,4,none⟩=some v4:=⟨zf h 0 _ rfl,zf h 1 _ rfl,zf h 2 _ rfl,zf h 3 _ rfl,zf h 4 _ rfl⟩
theorem fe5 {c:Array Value}(h:w.heap[b]?=some (.cells c t (0,0))):w.frozen? ⟨b,0,none⟩=false/\w.frozen? ⟨b,1,none⟩=false/\w.frozen? ⟨b,2,none⟩=false/\w.frozen? ⟨b,3,none⟩=false/\w.frozen? ⟨b,4,none⟩=false:=⟨zc h 0,zc h 1,zc h 2,zc h 3,zc h 4⟩
theorem Rz (h:w.heap[b]?=some (.cells (v0 :: v1 :: v2 :: v3 :: v4 :: v5 :: r).toArray t (0,0))):w.cell? ⟨b,0,none⟩=some v0/\w.cell? ⟨b,1,none⟩=some v1/\w.cell? ⟨b,2,none⟩=some v2/\w.cell? ⟨b,3,none⟩=some v3/\w.cell? ⟨b,4,none⟩=some v4/\w.cell? ⟨b,5,none⟩=some v5:=⟨zf h 0 _ rfl,zf h 1 _ rfl,zf h 2 _ rfl,zf h 3 _ rfl,zf h 4 _ rfl,zf h 5 _ rfl⟩
theorem nh {c:Array Value}(h:w.heap[b]?=some (.cells c t (0,0))):w.frozen? ⟨b,0,none⟩=false/\w.frozen? ⟨b,1,none⟩=false/\w.frozen? ⟨b,2,none⟩=false/\w.frozen? ⟨b,3,none⟩=false/\w.frozen? ⟨b,4,none⟩=false/\w.frozen? ⟨b,5,none⟩=false:=⟨zc h 0,zc h 1,zc h 2,zc h 3,zc h 4,zc h 5⟩
theorem ce7 (h:w.heap[b]?=some (.cells (v0 :: v1 :: v2 :: v3 :: v4 :: v5 :: v6 :: r).toArray t (0,0))):w.cell? ⟨b,0,none⟩=some v0/\w.cell? ⟨b,1,none⟩=some v1/\w.cell? ⟨b,2,none⟩=some v2/\w.cell? ⟨b,3,none⟩=some v3/\w.cell? ⟨b,4,none⟩=some v4/\w.cell? ⟨b,5,none⟩=some v5/\w.cell? ⟨b,6,none⟩=some v6:=⟨zf h 0 _ rfl,zf h 1 _ rfl,zf h 2 _ rfl,zf h 3 _ rfl,zf h 4 _ rfl,zf h 5 _ rfl,zf h 6 _ rfl⟩
theorem fe7 {c:Array Value}(h:w.heap[b]?=some (.cells c t (0,0))):w.frozen? ⟨b,0,none⟩=false/\w.frozen? ⟨b,1,none⟩=false/\w.frozen? ⟨b,2,none⟩=false/\w.frozen? ⟨b,3,none⟩=false/\w.frozen? ⟨b,4,none⟩=false/\w.frozen? ⟨b,5,none⟩=false/\w.frozen? ⟨b,6,none⟩=false:=⟨zc h 0,zc h 1,zc h 2,zc h 3,zc h 4,zc h 5,zc h 6⟩
theorem ju (h:w.heap[b]?=some (.cells (v0 :: v1 :: v2 :: v3 :: v4 :: v5 :: v6 :: v7 :: r).toArray t (0,0))):w.cell? ⟨b,0,none⟩=some v0/\w.cell? ⟨b,1,none⟩=some v1/\w.cell? ⟨b,2,none⟩=some v2/\w.cell? ⟨b,3,none⟩=some v3/\w.cell? ⟨b,4,none⟩=some v4/\w.cell? ⟨b,5,none⟩=some v5/\w.cell? ⟨b,6,none⟩=some v6/\w.cell? ⟨b,7,none⟩=some v7:=⟨zf h 0 _ rfl,zf h 1 _ rfl,zf h 2 _ rfl,zf h 3 _ rfl,zf h 4 _ rfl,zf h 5 _ rfl,zf h 6 _ rfl,zf h 7 _ rfl⟩
theorem fe8 {c:Array Value}(h:w.heap[b]?=some (.cells c t (0,0))):w.frozen? ⟨b,0,none⟩=false/\w.frozen? ⟨b,1,none⟩=false/\w.frozen? ⟨b,2,none⟩=false/\w.frozen? ⟨b,3,none⟩=false/\w.frozen? ⟨b,4,none⟩=false/\w.frozen? ⟨b,5,none⟩=false/\w.frozen? ⟨b,6,none⟩=false/\w.frozen? ⟨b,7,none⟩=false:=⟨zc h 0,zc h 1,zc h 2,zc h 3,zc h 4,zc h 5,zc h 6,zc h 7⟩
theorem ce9 {a:Value}(h:w.heap[b]?=some (.cells (v0 :: v1 :: v2 :: v3 :: v4 :: v5 :: v6 :: v7 :: a :: r).toArray t (0,0))):w.cell? ⟨b,0,none⟩=some v0/\w.cell? ⟨b,1,none⟩=some v1/\w.cell? ⟨b,2,none⟩=some v2/\w.cell? ⟨b,3,none⟩=some v3/\w.cell? ⟨b,4,none⟩=some v4/\w.cell? ⟨b,5,none⟩=some v5/\w.cell? ⟨b,6,none⟩=some v6/\w.cell? ⟨b,7,none⟩=some v7/\w.cell? ⟨b,8,none⟩=some a:=⟨zf h 0 _ rfl,zf h 1 _ rfl,zf h 2 _ rfl,zf h 3 _ rfl,zf h 4 _ rfl,zf h 5 _ rfl,zf h 6 _ rfl,zf h 7 _ rfl,zf h 8 _ rfl⟩
theorem fe9 {c:Array Value}(h:w.heap[b]?=some (.cells c t (0,0))):w.frozen? ⟨b,0,none⟩=false/\w.frozen? ⟨b,1,none⟩=false/\w.frozen? ⟨b,2,none⟩=false/\w.frozen? ⟨b,3,none⟩=false/\w.frozen? ⟨b,4,none⟩=false/\w.frozen? ⟨b,5,none⟩=false/\w.frozen? ⟨b,6,none⟩=false/\w.frozen? ⟨b,7,none⟩=false/\w.frozen? ⟨b,8,none⟩=false:=⟨zc h 0,zc h 1,zc h 2,zc h 3,zc h 4,zc h 5,zc h 6,zc h 7,zc h 8⟩
theorem mf {a c:Value}(h:w.heap[b]?=some (.cells (v0 :: v1 :: v2 :: v3 :: v4 :: v5 :: v6 :: v7 :: a :: c :: r).toArray t (0,0))):w.cell? ⟨b,0,none⟩=some v0/\w.cell? ⟨b,1,none⟩=some v1/\w.cell? ⟨b,2,none⟩=some v2/\w.cell? ⟨b,3,none⟩=some v3/\w.cell? ⟨b,4,none⟩=some v4/\w.cell? ⟨b,5,none⟩=some v5/\w.cell? ⟨b,6,none⟩=some v6/\w.cell? ⟨b,7,none⟩=some v7/\w.cell? ⟨b,8,none⟩=some a/\w.cell? ⟨b,9,none⟩=some c:=⟨zf h 0 _ rfl,zf h 1 _ rfl,zf h 2 _ rfl,zf h 3 _ rfl,zf h 4 _ rfl,zf h 5 _ rfl,zf h 6 _ rfl,zf h 7 _ rfl,zf h 8 _ rfl,zf h 9 _ rfl⟩
theorem fe10 {c:Array Value}(h:w.heap[b]?=some (.cells c t (0,0))):w.frozen? ⟨b,0,none⟩=false/\w.frozen? ⟨b,1,none⟩=false/\w.frozen? ⟨b,2,none⟩=false/\w.frozen? ⟨b,3,none⟩=false/\w.frozen? ⟨b,4,none⟩=false/\w.frozen? ⟨b,5,none⟩=false/\w.frozen? ⟨b,6,none⟩=false/\w.frozen? ⟨b,7,none⟩=false/\w.frozen? ⟨b,8,none⟩=false/\w.frozen? ⟨b,9,none⟩=false:=⟨zc h 0,zc h 1,zc h 2,zc h 3,zc h 4,zc h 5,zc h 6,zc h 7,zc h 8,zc h 9⟩
theorem ce11 {c d a:Value}(h:w.heap[b]?=some (.cells (v0 :: v1 :: v2 :: v3 :: v4 :: v5 :: v6 :: v7 :: c :: d :: a :: r).toArray t (0,0))):w.cell? ⟨b,0,none⟩=some v0/\w.cell? ⟨b,1,none⟩=some v1/\w.cell? ⟨b,2,none⟩=some v2/\w.cell? ⟨b,3,none⟩=some v3/\w.cell? ⟨b,4,none⟩=some v4/\w.cell? ⟨b,5,none⟩=some v5/\w.cell? ⟨b,6,none⟩=some v6/\w.cell? ⟨b,7,none⟩=some v7/\w.cell? ⟨b,8,none⟩=some c/\w.cell? ⟨b,9,none⟩=some d/\w.cell? ⟨b,10,none⟩=some a:=⟨zf h 0 _ rfl,zf h 1 _ rfl,zf h 2 _ rfl,zf h 3 _ rfl,zf h 4 _ rfl,zf h 5 _ rfl,zf h 6 _ rfl,zf h 7 _ rfl,zf h 8 _ rfl,zf h 9 _ rfl,zf h 10 _ rfl⟩
theorem fe11 {c:Array Value}(h:w.heap[b]?=some (.cells c t (0,0))):w.frozen? ⟨b,0,none⟩=false/\w.frozen? ⟨b,1,none⟩=false/\w.frozen? ⟨b,2,none⟩=false/\w.frozen? ⟨b,3,none⟩=false/\w.frozen? ⟨b,4,none⟩=false/\w.frozen? ⟨b,5,none⟩=false/\w.frozen? ⟨b,6,none⟩=false/\w.frozen? ⟨b,7,none⟩=false/\w.frozen? ⟨b,8,none⟩=false/\w.frozen? ⟨b,9,none⟩=false/\w.frozen? ⟨b,10,none⟩=false:=⟨zc h 0,zc h 1,zc h 2,zc h 3,zc h 4,zc h 5,zc h 6,zc h 7,zc h 8,zc h 9,zc h 10⟩
theorem DQ {d e a c:Value}(h:w.heap[b]?=some (.cells (v0 :: v1 :: v2 :: v3 :: v4 :: v5 :: v6 :: v7 :: d :: e :: a :: c :: r).toArray t (0,0))):w.cell? ⟨b,0,none⟩=some v0/\w.cell? ⟨b,1,none⟩=some v1/\w.cell? ⟨b,2,none⟩=some v2/\w.cell? ⟨b,3,none⟩=some v3/\w.cell? ⟨b,4,none⟩=some v4/\w.cell? ⟨b,5,none⟩=some v5/\w.cell? ⟨b,6,none⟩=some v6/\w.cell? ⟨b,7,none⟩=some v7/\w.cell? ⟨b,8,none⟩=some d/\w.cell? ⟨b,9,none⟩=some e/\w.cell? ⟨b,10,none⟩=some a/\w.cell? ⟨b,11,none⟩=some c:=⟨zf h 0 _ rfl,zf h 1 _ rfl,zf h 2 _ rfl,zf h 3 _ rfl,zf h 4 _ rfl,zf h 5 _ rfl,zf h 6 _ rfl,zf h 7 _ rfl,zf h 8 _ rfl,zf h 9 _ rfl,zf h 10 _ rfl,zf h 11 _ rfl⟩
theorem pw {c:Array Value}(h:w.heap[b]?=some (.cells c t (0,0))):w.frozen? ⟨b,0,none⟩=false/\w.frozen? ⟨b,1,none⟩=false/\w.frozen? ⟨b,2,none⟩=false/\w.frozen? ⟨b,3,none⟩=false/\w.frozen? ⟨b,4,none⟩=false/\w.frozen? ⟨b,5,none⟩=false/\w.frozen? ⟨b,6,none⟩=false/\w.frozen? ⟨b,7,none⟩=false/\w.frozen? ⟨b,8,none⟩=false/\w.frozen? ⟨b,9,none⟩=false/\w.frozen? ⟨b,10,none⟩=false/\w.frozen? ⟨b,11,none⟩=false:=⟨zc h 0,zc h 1,zc h 2,zc h 3,zc h 4,zc h 5,zc h 6,zc h 7,zc h 8,zc h 9,zc h 10,zc h 11⟩
theorem Cl {e f a c d:Value}(h:w.heap[b]?=some (.cells (v0 :: v1 :: v2 :: v3 :: v4 :: v5 :: v6 :: v7 :: e :: f :: a :: c :: d :: r).toArray t (0,0))):w.cell? ⟨b,0,none⟩=some v0/\w.cell? ⟨b,1,none⟩=some v1/\w.cell? ⟨b,2,none⟩=some v2/\w.cell? ⟨b,3,none⟩=some v3/\w.cell? ⟨b,4,none⟩=some v4/\w.cell? ⟨b,5,none⟩=some v5/\w.cell? ⟨b,6,none⟩=some v6/\w.cell? ⟨b,7,none⟩=some v7/\w.cell? ⟨b,8,none⟩=some e/\w.cell? ⟨b,9,none⟩=some f/\w.cell? ⟨b,10,none⟩=some a/\w.cell? ⟨b,11,none⟩=some c/\w.cell? ⟨b,12,none⟩=some d:=⟨zf h 0 _ rfl,zf h 1 _ rfl,zf h 2 _ rfl,zf h 3 _ rfl,zf h 4 _ rfl,zf h 5 _ rfl,zf h 6 _ rfl,zf h 7 _ rfl,zf h 8 _ rfl,zf h 9 _ rfl,zf h 10 _ rfl,zf h 11 _ rfl,zf h 12 _ rfl⟩
theorem jv {c:Array Value}(h:w.heap[b]?=some (.cells c t (0,0))):w.frozen? ⟨b,0,none⟩=false/\w.frozen? ⟨b,1,none⟩=false/\w.frozen? ⟨b,2,none⟩=false/\w.frozen? ⟨b,3,none⟩=false/\w.frozen? ⟨b,4,none⟩=false/\w.frozen? ⟨b,5,none⟩=false/\w.frozen? ⟨b,6,none⟩=false/\w.frozen? ⟨b,7,none⟩=false/\w.frozen? ⟨b,8,none⟩=false/\w.frozen? ⟨b,9,none⟩=false/\w.frozen? ⟨b,10,none⟩=false/\w.frozen? ⟨b,11,none⟩=false/\w.frozen? ⟨b,12,none⟩=false:=⟨zc h 0,zc h 1,zc h 2,zc h 3,zc h 4,zc h 5,zc h 6,zc h 7,zc h 8,zc h 9,zc h 10,zc h 11,zc h 12⟩
theorem sB {α:Type _}(l:List α)(i:Nat)(a:α):l.toArray.setIfInBounds i a=(l.set i a).toArray:=List.setIfInBounds_toArray ..
theorem sZ {α:Type _}(x a:α)(l:List α):(x :: l).set 0 a=a :: l:=rfl
theorem sS {α:Type _}(x a:α)(l:List α)(n:Nat):(x :: l).set (n+1) a=x :: l.set n a:=rfl
section
variable{w w':World}{g t n k N e lo j b:Nat}{d:Option Addr}{f:Nat->Value}{v0 v1 v2 v3 v4 v5 v6 v7 u0 u1 u2:Value}
structure zv where
 n:Nat
 A:Nat->Int
 B:Nat->Int
def zJ (w:World)(a:Option Addr)(p:zv):Prop :=
 ∀ k,k<p.n->∃ b off,a=some ⟨b,off,none⟩/\w.cell? ⟨b,off+k*2,none⟩=some (int i64 (p.A k))/\w.cell? ⟨b,off+k*2+1,none⟩=some (int i64 (p.B k))
theorem zJ.j0 {c:Option Addr}{p:zv}(h:zJ w c p)(d:Below w w w'):zJ w' c p:=by
 intro k f;obtain⟨b,off,e,h1,h2⟩:=h k f;have a:b<w.heap.size:=Ja w _ h1;exact⟨b,off,e,tR d h1 a,tR d h2 a⟩
def qj (p:zv)(j:Nat):Value:=if j % 2=0 then int i64 (p.A (j / 2)) else int i64 (p.B (j / 2))
theorem Ga (p:zv)(k:Nat):qj p (k*2)=int i64 (p.A k):=by
 unfold qj;rw[Jf oM,show k*2 / 2=k by omega]
theorem Gb (p:zv)(k:Nat):qj p (k*2+1)=int i64 (p.B k):=by
 unfold qj;rw[Je oM,show(k*2+1) / 2=k by omega]
theorem zJ.k1 {p:zv}(h:w.rowIs g t (p.n*2) (qj p)):zJ w (some ⟨g,0,none⟩) p:=by
 intro k hk;refine⟨g,0,rfl,?_,?_⟩
 ·rw[Nat.zero_add,h.cell oM,Ga]
 ·rw[Nat.zero_add,h.cell oM,Gb]
theorem Kp (n:Nat)(j:Nat)(a:j<n*2):(madeCells (Value.agg #[int i64 0,int i64 0]).cells (n*2)).toList.getD j (.bool false)=qj ⟨n,λ_=>0,λ_=>0⟩ j:=by
 have b:(Value.agg #[_,_]).cells=#[int i64 0,int i64 0]:=rfl;rw[b];simp only[madeCells,Array.toList_map,List.getD_eq_getElem?_getD,List.getElem?_map,Array.toList_range,List.getElem?_range a,Option.map_some,Option.getD_some];unfold qj;have:j % 2=0∨j % 2=1:=oM
 rcases this with h|h <;> simp[h]
theorem OS {p p':zv}(h:w.rowIs g t n (qj p))(b:∀ i,i≠k->p'.A i=p.A i)(c:∀ i,i≠k->p'.B i=p.B i) :
  ((w.setCell ⟨g,k*2,none⟩ (int i64 (p'.A k))).setCell ⟨g,k*2+1,none⟩ (int i64 (p'.B k))).rowIs g t n (qj p'):=by
 refine((h.set _ _).set _ _).congr λj _=>?_
 by_cases h1:j=k*2+1
 ·subst h1;rw[Jf rfl,Gb]
 ·rw[Je h1]
  by_cases h0:j=k*2
  ·subst h0;rw[Jf rfl,Ga]
  ·rw[Je h0]
   have a:j / 2≠k:=oM;unfold qj;rw[b _ a,c _ a]
def Ds (k:Nat)(p:zv):zv:=⟨p.n,QM k p.A 0,QM k p.B 0⟩
def qm (a:Option Addr)(n c:Nat):Prop:=n<=c/\c<=9223372036854775807/\(a=none->n=0/\c=0)
structure qe where
 S:Int
 U:ByteArray
 dst:ByteArray
 O:Int
 T:Int
 la:zv
 M:zv
 N:Int
def qe.zero:qe:=⟨0,⟨#[]⟩,⟨#[]⟩,0,0,⟨0,λ_=>0,λ_=>0⟩,⟨0,λ_=>0,λ_=>0⟩,0⟩
instance:Inhabited qe:=⟨qe.zero⟩
def qy (w:World)(a:Option Addr)(N:Nat)(S:Nat->qe):Prop :=
 ∀ k,k<N->∃ b off la lc ca cc,a=some ⟨b,off,none⟩/\w.cell? ⟨b,off+k*8,none⟩=some (int i64 (S k).S)/\w.cell? ⟨b,off+k*8+1,none⟩=some (.string (S k).U) /\
  w.cell? ⟨b,off+k*8+2,none⟩=some (.string (S k).dst)/\w.cell? ⟨b,off+k*8+3,none⟩=some (int i64 (S k).O)/\w.cell? ⟨b,off+k*8+4,none⟩=some (int i64 (S k).T) /\
  w.cell? ⟨b,off+k*8+5,none⟩=some (.slice la (S k).la.n lc)/\w.cell? ⟨b,off+k*8+6,none⟩=some (.slice ca (S k).M.n cc)/\w.cell? ⟨b,off+k*8+7,none⟩=some (int i64 (S k).N) /\
  zJ w la (S k).la/\zJ w ca (S k).M/\qm la (S k).la.n lc/\qm ca (S k).M.n cc
theorem qy.j0 {S:Nat->qe}(h:qy w d N S)(c:Below w w w'):qy w' d N S:=by
 intro k p;obtain⟨b,off,la,q,ca,f,e,g,h1,h2,h3,i,j,l,m,h8,h9,n,o⟩:=h k p;have a:b<w.heap.size:=Ja w _ h1;exact⟨b,off,la,q,ca,f,e,tR c g a,tR c h1 a,tR c h2 a,tR c h3 a,tR c i a,tR c j a,tR c l a,tR c m a,h8.j0 c,h9.j0 c,n,o⟩
def qz (S:Nat->qe)(a cs:Nat->Value)(j:Nat):Value :=
 if j % 8=0 then int i64 (S (j / 8)).S else if j % 8=1 then .string (S (j / 8)).U else if j % 8=2 then .string (S (j / 8)).dst else if j % 8=3 then int i64 (S (j / 8)).O
 else if j % 8=4 then int i64 (S (j / 8)).T else if j % 8=5 then a (j / 8) else if j % 8=6 then cs (j / 8) else int i64 (S (j / 8)).N
theorem CU (S:Nat->qe)(a cs:Nat->Value)(k:Nat):qz S a cs (k*8)=int i64 (S k).S:=by
 unfold qz;rw[Jf oM,show k*8 / 8=k by omega]
theorem CV (S:Nat->qe)(a cs:Nat->Value)(k:Nat):qz S a cs (k*8+1)=.string (S k).U:=by
 unfold qz;rw[Je oM,Jf oM,show(k*8+1) / 8=k by omega]
theorem CW (S:Nat->qe)(a cs:Nat->Value)(k:Nat):qz S a cs (k*8+2)=.string (S k).dst:=by
 unfold qz;rw[Je oM,Je oM,Jf oM,show(k*8+2) / 8=k by omega]
theorem CX (S:Nat->qe)(a cs:Nat->Value)(k:Nat):qz S a cs (k*8+3)=int i64 (S k).O:=by
 unfold qz;rw[Je oM,Je oM,Je oM,Jf oM,show(k*8+3) / 8=k by omega]
theorem CY (S:Nat->qe)(a cs:Nat->Value)(k:Nat):qz S a cs (k*8+4)=int i64 (S k).T:=by
 unfold qz;rw[Je oM,Je oM,Je oM,Je oM,Jf oM,show(k*8+4) / 8=k by omega]
theorem Ad (S:Nat->qe)(a cs:Nat->Value)(k:Nat):qz S a cs (k*8+5)=a k:=by
 unfold qz;rw[Je oM,Je oM,Je oM,Je oM,Je oM,Jf oM,show(k*8+5) / 8=k by omega]
theorem Ae (S:Nat->qe)(a cs:Nat->Value)(k:Nat):qz S a cs (k*8+6)=cs k:=by
 unfold qz;rw[Je oM,Je oM,Je oM,Je oM,Je oM,Je oM,Jf oM,show(k*8+6) / 8=k by omega]
theorem CZ (S:Nat->qe)(a cs:Nat->Value)(k:Nat):qz S a cs (k*8+7)=int i64 (S k).N:=by
 unfold qz;rw[Je oM,Je oM,Je oM,Je oM,Je oM,Je oM,Je oM,show(k*8+7) / 8=k by omega]
theorem Kq (n:Nat)(j:Nat)(a:j<n*8):(madeCells (Value.agg #[int i64 0,.string ⟨#[]⟩,.string ⟨#[]⟩,int i64 0,int i64 0,.slice none 0 0,.slice none 0 0,int i64 0]).cells (n*8)).toList.getD j (.bool false)=qz (λ_=>qe.zero) (λ_=>.slice none 0 0) (λ_=>.slice none 0 0) j:=by
 have b:(Value.agg #[_,_,_,_,_,_,_,_]).cells=#[int i64 0,.string ⟨#[]⟩,.string ⟨#[]⟩,int i64 0,int i64 0,.slice none 0 0,.slice none 0 0,int i64 0]:=rfl;rw[b];simp only[madeCells,Array.toList_map,List.getD_eq_getElem?_getD,List.getElem?_map,Array.toList_range,List.getElem?_range a,Option.map_some,Option.getD_some];unfold qz;have:j % 8=0∨j % 8=1∨j % 8=2∨j % 8=3∨j % 8=4∨j % 8=5∨j % 8=6∨j % 8=7:=oM
 rcases this with h|h|h|h|h|h|h|h <;> simp[h,qe.zero]
def ER (w:World)(g o:Nat)(v0 v1 v2 v3 v4 v5 v6 v7:Value):World :=
 (((((((w.setCell ⟨g,o,none⟩ v0).setCell ⟨g,o+1,none⟩ v1).setCell ⟨g,o+2,none⟩ v2).setCell ⟨g,o+3,none⟩ v3).setCell ⟨g,o+4,none⟩ v4).setCell ⟨g,o+5,none⟩ v5).setCell ⟨g,o+6,none⟩ v6).setCell ⟨g,o+7,none⟩ v7
theorem DR {o x:Nat}(h:w.rowIs x t n f)(a:x≠g):(ER w g o v0 v1 v2 v3 v4 v5 v6 v7).rowIs x t n f:=by
 unfold ER;exact(((((((h.setOther (by show x≠g;exact a) _).setOther (by show x≠g;exact a) _).setOther (by show x≠g;exact a) _).setOther (by show x≠g;exact a) _).setOther (by show x≠g;exact a) _).setOther (by show x≠g;exact a) _).setOther (by show x≠g;exact a) _).setOther (by show x≠g;exact a) _
theorem Gc {b:World}{o:Nat}(h:Below b b w)(a:b.heap.size<=g):Below b b (ER w g o v0 v1 v2 v3 v4 v5 v6 v7):=by
 unfold ER;exact(((((((h.setCell a _).setCell a _).setCell a _).setCell a _).setCell a _).setCell a _).setCell a _).setCell a _
theorem OT {u3 u4 u5 u6 u7:Value}(h:w.heap[g]?=some (.cells #[u0,u1,u2,u3,u4,u5,u6,u7] t (0,0))) :
  (ER w g 0 v0 v1 v2 v3 v4 v5 v6 v7).heap[g]?=some (.cells #[v0,v1,v2,v3,v4,v5,v6,v7] t (0,0)):=by
 unfold ER;have:=zk (zk (zk (zk (zk (zk (zk (zk h 0 v0) 1 v1) 2 v2) 3 v3) 4 v4) 5 v5) 6 v6) 7 v7
 simpa using this
theorem OU {S S':Nat->qe}{b ls' cs cs':Nat->Value}(h:w.rowIs g t n (qz S b cs))
  (e:∀ i,i≠k->S' i=S i) (d:∀ i,i≠k->ls' i=b i) (c:∀ i,i≠k->cs' i=cs i) :
  (ER w g (k*8) (int i64 (S' k).S) (.string (S' k).U) (.string (S' k).dst) (int i64 (S' k).O) (int i64 (S' k).T) (ls' k) (cs' k) (int i64 (S' k).N)).rowIs g t n (qz S' ls' cs'):=by
 unfold ER;refine((((((((h.set _ _).set _ _).set _ _).set _ _).set _ _).set _ _).set _ _).set _ _).congr λj _=>?_
 by_cases h7:j=k*8+7
 ·subst h7;rw[Jf rfl,CZ]
 rw[Je h7]
 by_cases h6:j=k*8+6
 ·subst h6;rw[Jf rfl,Ae]
 rw[Je h6]
 by_cases h5:j=k*8+5
 ·subst h5;rw[Jf rfl,Ad]
 rw[Je h5]
 by_cases h4:j=k*8+4
 ·subst h4;rw[Jf rfl,CY]
 rw[Je h4]
 by_cases h3:j=k*8+3
 ·subst h3;rw[Jf rfl,CX]
 rw[Je h3]
 by_cases h2:j=k*8+2
 ·subst h2;rw[Jf rfl,CW]
 rw[Je h2]
 by_cases h1:j=k*8+1
 ·subst h1;rw[Jf rfl,CV]
 rw[Je h1]
 by_cases h0:j=k*8
 ·subst h0;rw[Jf rfl,CU]
 rw[Je h0];have a:j / 8≠k:=oM;unfold qz;rw[e _ a,d _ a,c _ a]
def Zw (b n:Nat):Value:=.slice (some ⟨b,0,none⟩) n n
def jr (f:Nat->Nat)(q u:Nat)(i:Nat):Nat:=if i=q then u else f i
theorem MQ (f:Nat->Nat)(q u:Nat):jr f q u q=u:=Jf rfl
theorem Ih (f:Nat->Nat)(q u i:Nat)(h:i≠q):jr f q u i=f i:=Je h
structure Af (w:World)(d b a k lo g N:Nat)(S:Nat->qe)(l c:Nat->Nat):Prop where
 row:w.rowIs g d (N*8) (qz (QM k S qe.zero) (QM k (λi=>Zw (l i) (S i).la.n) (.slice none 0 0)) (QM k (λi=>Zw (c i) (S i).M.n) (.slice none 0 0)))
 lo:lo<=g
 R:∀ i,i<k->g<l i/\w.rowIs (l i) b ((S i).la.n*2) (qj (S i).la)
 P:∀ i,i<k->l i<c i/\w.rowIs (c i) a ((S i).M.n*2) (qj (S i).M)
 rise:∀ i j,i<j->j<k->c i<l j
theorem Af.j0 {f d:Nat}{S:Nat->qe}{l c:Nat->Nat}(r:Af w f e d k lo g N S l c)(b:Below w w w'):Af w' f e d k lo g N S l c :=
 ⟨qo r.row b,r.lo,λi a=>⟨(r.R i a).1,qo (r.R i a).2 b⟩,λi a=>⟨(r.P i a).1,qo (r.P i a).2 b⟩,r.rise⟩
theorem Af.sails {h f:Nat}{S:Nat->qe}{l c:Nat->Nat}(r:Af w j h f N lo g N S l c)(d:∀ i,i<N->(S i).la.n<=1048576)(b:∀ i,i<N->(S i).M.n<=1048576):qy w (some ⟨g,0,none⟩) N S:=by
 intro k a;refine⟨g,0,_,_,_,_,rfl,?_,?_,?_,?_,?_,?_,?_,?_,zJ.k1 (r.R k a).2,zJ.k1 (r.P k a).2,⟨Jr _,by have:=d k a;omega,by intro e;cases e⟩,⟨Jr _,by have:=b k a;omega,by intro e;cases e⟩⟩
 ·rw[Nat.zero_add,r.row.cell oM,CU,qi _ _ a]
 ·rw[Nat.zero_add,r.row.cell oM,CV,qi _ _ a]
 ·rw[Nat.zero_add,r.row.cell oM,CW,qi _ _ a]
 ·rw[Nat.zero_add,r.row.cell oM,CX,qi _ _ a]
 ·rw[Nat.zero_add,r.row.cell oM,CY,qi _ _ a]
 ·rw[Nat.zero_add,r.row.cell oM,Ad,qi _ _ a];rfl
 ·rw[Nat.zero_add,r.row.cell oM,Ae,qi _ _ a];rfl
 ·rw[Nat.zero_add,r.row.cell oM,CZ,qi _ _ a]
theorem Af.step {s q p:Nat}{S:Nat->qe}{l c:Nat->Nat}(r:Af w s q p k lo g N S l c){a:Nat}(t:g<a)(n:a<b)
  (f:∀ i,i<k->c i<a) (h:w.rowIs a q ((S k).la.n*2) (qj (S k).la)) (m:w.rowIs b p ((S k).M.n*2) (qj (S k).M)) :
  Af (ER w g (k*8) (int i64 (S k).S) (.string (S k).U) (.string (S k).dst) (int i64 (S k).O) (int i64 (S k).T) (Zw a (S k).la.n) (Zw b (S k).M.n) (int i64 (S k).N)) s q p (k+1) lo g N S (jr l k a) (jr c k b):=by
 refine⟨?_,r.lo,λi d=>?_,λi d=>?_,λi j o hj=>?_⟩
 ·have:=OU (S':=QM _ S _) (ls':=QM (k+1) (λi=>Zw (jr l k a i) (S i).la.n) (.slice _ 0 0)) (cs':=QM (k+1) (λi=>Zw (jr c k b i) (S i).M.n) (.slice _ 0 0)) r.row (λi e=>QJ _ _ _ _ e)
   (λi e=>by unfold QM;by_cases d:i<k;(rw[Jf d,Jf oM];simp only[Ih _ _ _ _ e]);rw[Je d,Je oM])
   (λi e=>by unfold QM;by_cases d:i<k;(rw[Jf d,Jf oM];simp only[Ih _ _ _ _ e]);rw[Je d,Je oM])
  rw[qi _ _ (Nat.lt_succ_self k),qi _ _ (Nat.lt_succ_self k),qi _ _ (Nat.lt_succ_self k),MQ,MQ] at this;exact this
 ·by_cases e:i=k
  ·subst e;rw[MQ];exact⟨t,DR h oM⟩
  ·rw[Ih _ _ _ _ e];have:=r.R i oM;exact⟨this.1,DR this.2 oM⟩
 ·by_cases e:i=k
  ·subst e;rw[MQ,MQ];exact⟨n,DR m oM⟩
  ·rw[Ih _ _ _ _ e,Ih _ _ _ _ e];have h1:=r.R i oM;have h2:=r.P i oM;exact⟨h2.1,DR h2.2 oM⟩
 ·by_cases e:j=k
  ·subst e;rw[MQ,Ih _ _ _ _ oM];exact f i oM
  ·rw[Ih _ _ _ _ e,Ih _ _ _ _ oM];exact r.rise i j o oM
def qH (P:Prop)(e:Ending):Prop:=∃ b:Bool,e=.returned (.bool b)/\(b=true↔P)
theorem zN {P:Prop}(h:P):qH P (.returned (.bool true)):=⟨true,rfl,⟨λ_=>h,λ_=>rfl⟩⟩
theorem zh {P:Prop}(h:¬ P):qH P (.returned (.bool false)):=⟨false,rfl,⟨λe=>(by cases e),λp=>absurd p h⟩⟩
def Kr (P:Prop)(c:Value):Prop:=∃ b:Bool,c=.bool b/\(b=false↔P)
theorem Q4 {P:Prop}(h:¬ P):Kr P (.bool true):=⟨true,rfl,⟨λe=>(by cases e),λp=>absurd p h⟩⟩
theorem Ag {P:Prop}(h:P):Kr P (.bool false):=⟨false,rfl,⟨λ_=>h,λ_=>rfl⟩⟩
end
def Ks (s:qe)(B:Nat):Prop:=s.U.size<=B/\s.dst.size<=B/\s.la.n<=B/\s.M.n<=B
def Qz (N:Nat)(S:Nat->qe)(B:Nat):Prop:=∀ i,i<N->Ks (S i) B
theorem Tryz.infoLane:(Tryz.prog.info? 223).map (λi=>(i.zero,i.size,i.bytes))=some (some (.agg #[int i64 0,int i64 0]),2,16):=kR
theorem Tryz.infoCabin:(Tryz.prog.info? 231).map (λi=>(i.zero,i.size,i.bytes))=some (some (.agg #[int i64 0,int i64 0]),2,16):=kR
theorem Tryz.infoSailing:(Tryz.prog.info? 140).map (λi=>(i.zero,i.size,i.bytes))=some (some (.agg #[int i64 0,.string ⟨#[]⟩,.string ⟨#[]⟩,int i64 0,int i64 0,.slice none 0 0,.slice none 0 0,int i64 0]),8,112):=kR
section
variable{w w':World}{b e size n m k i g N j c:Nat}{o:Obj}{S T:Nat->Prop}{v v1 v2 u:Value}{f:Nat->Value}{a:Option Addr}
theorem zK (h:w.heap[b]?=some o):w.drew.heap[b]?=some o:=h
structure zl (w w':World)(S:Nat->Prop):Prop where
 os:w'.os=w.os
 tape:w'.tape=w.tape
 output:w'.output=w.output
 size:w.heap.size<=w'.heap.size
 block:∀ k,k<w.heap.size->¬ S k->w'.heap[k]?=w.heap[k]?
theorem zl.refl (w:World)(S:Nat->Prop):zl w w S:=⟨rfl,rfl,rfl,Jr _,λ_ _ _=>rfl⟩
theorem zl.trans {a:World}(h:zl w w' S)(k:zl w' a S):zl w a S :=
 ⟨k.os.trans h.os,k.tape.trans h.tape,k.output.trans h.output,Jp h.size k.size,λi b c=>(k.block i (Nat.lt_of_lt_of_le b h.size) c).trans (h.block i b c)⟩
theorem zl.mono (h:zl w w' S)(b:∀ k,S k->T k):zl w w' T:=⟨h.os,h.tape,h.output,h.size,λi a c=>h.block i a λs=>c (b i s)⟩
theorem zl.of_below (h:Below w w w'):zl w w' S:=⟨h.os,h.tape,h.output,h.size,λi a _=>h.block i a⟩
theorem zl.set (h:zl w w' S){a:Addr}(b:S a.block)(u:Value):zl w (w'.setCell a u) S :=
 h.trans ⟨rfl,rfl,rfl,by simp,λk _ c=>Below.heap_setCell _ _ _ _ (λe=>c (e ▸ b))⟩
theorem zl.j0 {B:Nat}{a:World}(b:Below B a w)(hB:B<=w.heap.size)(h:zl w w' S)(c:∀ k,S k->B<=k):Below B a w' :=
 b.trans ⟨h.os,h.tape,h.output,h.size,λk hk=>h.block k oM (λs=>by have:=c k s;omega)⟩
theorem zl.blk (h:zl w w' S)(a:w.heap[b]?=some o)(c:¬ S b):w'.heap[b]?=some o:=(h.block b (zD a) c).trans a
theorem zl.j1 (h:zl w w' S){base:Nat}{d:List Value}(c:w.ownsRow base e size v n d)(k:∀ g,v.ownBlock=some g->¬ S g):w'.ownsRow base e size v n d:=by
 refine⟨c.1,?_⟩
 rcases c.2 with f|⟨g,a,b,rfl,i,j,rest⟩
 ·exact .inl f
 ·exact .inr ⟨g,a,b,rfl,i,h.blk j (k g rfl),rest⟩
theorem zm (h:Below w w w'){base:Nat}{a:List Value}(b:w.ownsRow base e size v n a):w'.ownsRow base e size v n a :=
 (zl.of_below (S:=λ_=>False) h).j1 b (λ_ _ h=>h)
theorem zE {h f l:Nat}{o p:List Value}(h1:w.ownsRow h e m v1 k o)(h2:w.ownsRow i f n v2 l p)(c:e≠f):∀ g,v1.ownBlock=some g->v2.ownBlock≠some g:=by
 intro g a b
 rcases h1.2 with⟨rfl,_⟩|⟨g1,c1,r1,rfl,_,j,_⟩
 ·simp[Value.ownBlock] at a
 ·rcases h2.2 with⟨rfl,_⟩|⟨g2,c2,r2,rfl,_,d,_⟩
  ·simp[Value.ownBlock] at b
  ·simp only[Value.ownBlock,Option.some.injEq] at a b
   subst a;subst b;rw[j] at d;simp at d;exact c d.2
theorem ZM {base:Nat}(h:w.rowIs g e (n*size) f)(a:base<=g)(j:n<=maxLen):w.ownsRow base e size (.slice (some ⟨g,0,none⟩) n n) n ((List.range (n*size)).map f):=by
 obtain⟨c,d,k,b⟩:=h;refine⟨by simp,.inr ⟨g,n,c,rfl,a,d,Jr _,j,k,?_⟩⟩
 apply List.ext_getElem?
 intro i;rw[List.getElem?_take]
 by_cases hi:i<n*size
 ·rw[Jf hi,List.getElem?_map,List.getElem?_range hi,Array.getElem?_toList,b i hi];rfl
 ·rw[Je hi,List.getElem?_eq_none (by simpa using hi)]
theorem TE:((List.range N).map f).set j u=(List.range N).map (λi=>if i=j then u else f i):=by
 apply List.ext_getElem?
 intro i;rw[List.getElem?_set,List.getElem?_map,List.getElem?_map,List.length_map,List.length_range]
 by_cases hi:i<N
 ·rw[List.getElem?_range hi]
  by_cases e:j=i
  ·subst e;simp[hi]
  ·rw[Je e];simp[show ¬ i=j from λh=>e h.symm]
 ·rw[List.getElem?_eq_none (by simpa using hi)]
  by_cases e:j=i
  ·subst e;simp[hi]
  ·rw[Je e];rfl
theorem zI {base a:Nat}(h:w.ownsRow base e size (.slice (some ⟨g,0,none⟩) n a) n ((List.range N).map f))(j:Nat)(u:Value) :
  (w.setCell ⟨g,j,none⟩ u).ownsRow base e size (.slice (some ⟨g,0,none⟩) n a) n ((List.range N).map (λi=>if i=j then u else f i)):=by
 have:=(h.stored j u).1
 rwa [TE] at this
theorem qX {base:Nat}{a:Nat->Value}(h:w.ownsRow base e size v n ((List.range N).map f))(b:∀ i,i<N->f i=a i):w.ownsRow base e size v n ((List.range N).map a):=by
 have:_=(List.range N).map a:=List.map_congr_left λi c=>b i (by simpa using c)
 rwa [this] at h
theorem zs {base a:Nat}(h:w.ownsRow base e size (.slice (some ⟨g,0,none⟩) n a) n ((List.range N).map f))(j:Nat)(b:j<n*size)(hN:N=n*size):w.cell? ⟨g,j,none⟩=some (f j):=by
 rw[h.cellAt j b,List.getElem?_map,List.getElem?_range oM];rfl
theorem qr {base:Nat}{f:List Value}(h:w.ownsRow base e size (.slice a n c) n f)(d:0<n):∃ g,a=some ⟨g,0,none⟩/\base<=g/\g<w.heap.size:=by
 obtain⟨g,b,e,h1,h2⟩:=h.form d;simp only[Value.slice.injEq,true_and] at e;exact⟨g,e.1,h1,h2⟩
end
def qd (sz:Nat)(C:Nat->List Value)(j:Nat):Value:=(C (j / sz)).getD (j % sz) (.bool false)
theorem zO (sz:Nat)(C:Nat->List Value)(k j:Nat)(a:j<sz):qd sz C (k*sz+j)=(C k).getD j (.bool false):=by
 unfold qd;have b:0<sz:=oM;rw[show(k*sz+j) / sz=k by rw[Nat.add_comm,Nat.add_mul_div_right _ _ b,Nat.div_eq_of_lt a,Nat.zero_add],show(k*sz+j) % sz=j by rw[Nat.add_comm,Nat.add_mul_mod_self_right,Nat.mod_eq_of_lt a]]
def qA (w:World)(g:Nat):Nat->List Value->World
 |_,[]=>w
 |o,v :: vs=>qA (w.setCell ⟨g,o,none⟩ v) g (o+1) vs
theorem qJ {x:Nat}(a:x≠g):∀ (b:List Value)(o:Nat)(w:World),w.rowIs x t n f->(qA w g o b).rowIs x t n f
 |[],_,_,h=>h
 |v :: r,o,_,h=>qJ a r (o+1) _ (h.setOther (by exact a) v)
theorem qk {x:Obj}(a:b≠g):∀ (c:List Value)(o:Nat)(w:World),w.heap[b]?=some x->(qA w g o c).heap[b]?=some x
 |[],_,_,h=>h
 |v :: r,o,_,h=>qk a r (o+1) _ (zG h o v a)
theorem Zi {a:World}(b:a.heap.size<=g):∀ (c:List Value)(o:Nat)(w:World),Below a a w->Below a a (qA w g o c)
 |[],_,_,h=>h
 |v :: r,o,_,h=>Zi b r (o+1) _ (h.setCell (by exact b) v)
theorem Ei {c:World}(b:S g):∀ (d:List Value)(o:Nat)(w:World),zl c w S->zl c (qA w g o d) S
 |[],_,_,h=>h
 |v :: r,o,_,h=>Ei b r (o+1) _ (h.set (a:=⟨g,o,none⟩) b v)
theorem Ej (g:Nat):∀ (a:List Value)(o:Nat)(w:World),(qA w g o a).heap.size=w.heap.size
 |[],_,_=>rfl
 |v :: r,o,w=>by rw[qA,Ej g r _,World.size_setCell]
theorem Ii:∀ (a:List Value)(o:Nat)(w:World)(f:Nat->Value),w.rowIs b t n f->(qA w b o a).rowIs b t n (λj=>if o<=j/\j<o+a.length then a.getD (j - o) (.bool false) else f j)
 |[],o,w,f,h=>h.congr (λj _=>by rw[Je sM])
 |v :: r,o,w,f,h=>by
  have c:=Ii r (o+1) _ _ (h.set o v);refine c.congr (λj _=>?_)
  by_cases h1:j=o
  ·subst h1
   rw[Je oM,Jf rfl,Jf sM,Nat.sub_self]
   rfl
  ·by_cases h2:o+1<=j/\j<o+1+r.length
   ·rw[Jf h2,Jf (by simp;omega),show j - o=(j - (o+1))+1 by omega]
    simp
   ·rw[Je h2,Je h1,Je (by simp;omega)]
theorem To {C c:Nat->List Value}{b:List Value}(h:w.rowIs g t n (qd sz C))(m:b.length=sz)(d:0<sz)(f:∀ i,i≠k->c i=C i)(l:c k=b) :
  (qA w g (k*sz) b).rowIs g t n (qd sz c):=by
 refine(Ii b _ w _ h).congr λj _=>?_
 by_cases e:j / sz=k
 ·have h1:k*sz<=j:=by rw[← e];exact Nat.div_mul_le_self j sz
  have h2:=by
   have:=Nat.lt_div_mul_add d (a:=j);rw[e] at this;exact this
  rw[Jf ⟨h1,by omega⟩]
  unfold qd;rw[e,l,show j % sz=j - k*sz by have:=Nat.div_add_mod j sz;rw[e,Nat.mul_comm] at this;omega]
 ·rw[Je (by
   rintro⟨h1,h2⟩
   apply e
   rw[m] at h2;have:j=(j - k*sz)+k*sz:=oM;rw[this,Nat.add_mul_div_right _ _ d,Nat.div_eq_of_lt oM,Nat.zero_add])]
  unfold qd;rw[f _ e]
def Qo (w:World)(a:Option Addr)(N sz:Nat)(C:Nat->List Value):Prop :=
 ∀ k,k<N->∃ b off,a=some ⟨b,off,none⟩/\∀ j,j<sz->w.cell? ⟨b,off+k*sz+j,none⟩=some ((C k).getD j (.bool false))
theorem Qo.j0 {C:Nat->List Value}(h:Qo w a N sz C)(f:Below w w w'):Qo w' a N sz C:=by
 intro k g;obtain⟨b,off,e,c⟩:=h k g;exact⟨b,off,e,λj d=>(f.cell (Ja w _ (c j d))).trans (c j d)⟩
theorem Qo.k1 {C:Nat->List Value}(h:w.rowIs g t (N*sz) (qd sz C)):Qo w (some ⟨g,0,none⟩) N sz C:=by
 intro k b;refine⟨g,0,rfl,λj a=>?_⟩
 have:k*sz+j<N*sz:=by
  have h1:(k+1)*sz<=_:=Nat.mul_le_mul_right sz b;rw[Nat.add_mul] at h1
  omega
 rw[Nat.zero_add,h.cell this,zO sz C k j a]
theorem Qo.j9 {M:Nat}{C:Nat->List Value}(h:Qo w a N sz C)(hM:M<=N):Qo w a M sz C:=λk hk=>h k oM
theorem Ft {z:Array Value}(b:z.size=sz)(n j:Nat)(d:j<n*sz):(madeCells z (n*sz)).toList.getD j (.bool false)=qd sz (λ_=>z.toList) j:=by
 have c:0<sz:=by rcases Nat.eq_zero_or_pos sz with h|h;subst h;omega;exact h
 simp only[madeCells,Array.toList_map,List.getD_eq_getElem?_getD,List.getElem?_map,Array.toList_range,List.getElem?_range d,Option.map_some,Option.getD_some];unfold qd;rw[List.getD_eq_getElem?_getD];have a:j % sz<z.size:=by rw[b];exact Nat.mod_lt _ c
 simp[b];rw[getElem!_pos z _ a,Array.getElem?_eq_getElem a]
 rfl
section
variable{w w':World}{cs:List Value}{lo c b:Nat}{S:Nat->Prop}
structure qD where
 d:Int
 j1:ByteArray
 k:Int
 c:Nat
 J:Nat->Int
 v:Int
 f:Int
 j:Int
 w:Int
 h:Bool
 x:Int
 y:Int
 D:Int
def qD.Is (w:World)(cs:List Value)(x:qD):Prop :=
 ∃ alg clg,cs=[int i64 x.d,.string x.j1,int i64 x.k,.slice alg x.c clg,int i64 x.v,int i64 x.f,int i64 x.j,int i64 x.w,.bool x.h,int i64 x.x,int i64 x.y,int i64 x.D]/\zS w alg x.c x.J/\qm alg x.c clg
theorem qD.Is.j0 {x:qD}(h:qD.Is w cs x)(f:Below w w w'):qD.Is w' cs x:=by
 obtain⟨a,b,e,c,d⟩:=h;exact⟨a,b,e,c.j0 f,d⟩
def qD.Short (x:qD)(B:Nat):Prop:=x.j1.size<=B/\x.c<=B
def qD.In (w:World)(lo a:Nat)(cs:List Value)(x:qD):Prop :=
 ∃ llg,cs=[int i64 x.d,.string x.j1,int i64 x.k,Zw llg x.c,int i64 x.v,int i64 x.f,int i64 x.j,int i64 x.w,.bool x.h,int i64 x.x,int i64 x.y,int i64 x.D]/\(lo<=llg/\llg<a/\w.rowIs llg 3 x.c (λk=>int i64 (x.J k)))
theorem qD.In.j0 {x:qD}(h:qD.In w lo c cs x)(d:Below w w w'):qD.In w' lo c cs x:=by
 obtain⟨b,e,a⟩:=h;exact⟨b,e,⟨a.1,a.2.1,qo a.2.2 d⟩⟩
theorem qD.In.kept {x:qD}(h:qD.In w lo c cs x)(g:zl w w' S)(f:∀ b,S b->b<lo∨c<=b):qD.In w' lo c cs x:=by
 obtain⟨d,e,a⟩:=h;exact⟨d,e,⟨a.1,a.2.1,a.2.2.of_block (g.block _ a.2.2.lt (λs=>by have:=f _ s;omega))⟩⟩
theorem qD.In.is {x:qD}(h:qD.In w lo b cs x)(c:qD.Short x 1048576):qD.Is w cs x:=by
 obtain⟨d,e,a⟩:=h;obtain⟨_,f⟩:=c;exact⟨_,_,e,zS.k1 a.2.2,⟨Jr _,by omega,λh=>by cases h⟩⟩
end
section
variable{w w':World}{cs:List Value}{lo c lo' hi' b N k g:Nat}{S T:Nat->Prop}{a:Option Addr}
structure zA where
 k:Int
 e:Int
 j1:ByteArray
 c:Nat
 J:Nat->Int
 v:Int
 f:Int
 j:Int
 w:Int
 h:Bool
 x:Int
 C:Int
 y:Int
 j2:Int
def zA.Is (w:World)(cs:List Value)(x:zA):Prop :=
 ∃ alg clg,cs=[int i64 x.k,int i64 x.e,.string x.j1,.slice alg x.c clg,int i64 x.v,int i64 x.f,int i64 x.j,int i64 x.w,.bool x.h,int i64 x.x,int i64 x.C,int i64 x.y,int i64 x.j2]/\zS w alg x.c x.J/\qm alg x.c clg
theorem zA.Is.j0 {x:zA}(h:zA.Is w cs x)(f:Below w w w'):zA.Is w' cs x:=by
 obtain⟨a,b,e,c,d⟩:=h;exact⟨a,b,e,c.j0 f,d⟩
theorem zA.Is.length {x:zA}(h:zA.Is w cs x):cs.length=13:=by
 obtain⟨_,_,rfl,_⟩:=h
 rfl
def zA.Short (x:zA)(B:Nat):Prop:=x.j1.size<=B/\x.c<=B
def zA.In (w:World)(lo a:Nat)(cs:List Value)(x:zA):Prop :=
 ∃ llg,cs=[int i64 x.k,int i64 x.e,.string x.j1,Zw llg x.c,int i64 x.v,int i64 x.f,int i64 x.j,int i64 x.w,.bool x.h,int i64 x.x,int i64 x.C,int i64 x.y,int i64 x.j2]/\(lo<=llg/\llg<a/\w.rowIs llg 3 x.c (λk=>int i64 (x.J k)))
theorem zA.In.j0 {x:zA}(h:zA.In w lo c cs x)(d:Below w w w'):zA.In w' lo c cs x:=by
 obtain⟨b,e,a⟩:=h;exact⟨b,e,⟨a.1,a.2.1,qo a.2.2 d⟩⟩
theorem zA.In.wide {x:zA}(h:zA.In w lo c cs x)(h1:lo'<=lo)(h2:c<=hi'):zA.In w lo' hi' cs x:=by
 obtain⟨b,e,a⟩:=h;exact⟨b,e,⟨Jp h1 a.1,Nat.lt_of_lt_of_le a.2.1 h2,a.2.2⟩⟩
theorem zA.In.kept {x:zA}(h:zA.In w lo c cs x)(g:zl w w' S)(f:∀ b,S b->b<lo∨c<=b):zA.In w' lo c cs x:=by
 obtain⟨d,e,a⟩:=h;exact⟨d,e,⟨a.1,a.2.1,a.2.2.of_block (g.block _ a.2.2.lt (λs=>by have:=f _ s;omega))⟩⟩
theorem zA.In.is {x:zA}(h:zA.In w lo b cs x)(c:zA.Short x 1048576):zA.Is w cs x:=by
 obtain⟨d,e,a⟩:=h;obtain⟨_,f⟩:=c;exact⟨_,_,e,zS.k1 a.2.2,⟨Jr _,by omega,λh=>by cases h⟩⟩
def qL (w:World)(a:Option Addr)(N:Nat)(S:Nat->zA):Prop:=∃ C,Qo w a N 13 C/\∀ k,k<N->zA.Is w (C k) (S k)
theorem qL.j0 {S:Nat->zA}(h:qL w a N S)(b:Below w w w'):qL w' a N S:=by
 obtain⟨C,h1,h2⟩:=h;exact⟨C,h1.j0 b,λk c=>(h2 k c).j0 b⟩
def ZY (N:Nat)(S:Nat->zA)(B:Nat):Prop:=∀ i,i<N->zA.Short (S i) B
structure Ah (w:World)(k lo a g N:Nat)(S:Nat->zA)(C:Nat->List Value):Prop where
 row:w.rowIs g 150 (N*13) (qd 13 (QM k C (#[int i64 0,int i64 0,.string ⟨#[]⟩,.slice none 0 0,int i64 0,int i64 0,int i64 0,int i64 0,.bool false,int i64 0,int i64 0,int i64 0,int i64 0]:Array Value).toList))
 glo:lo<=g
 ghi:g<a
 each:∀ i,i<k->zA.In w (g+1) a (C i) (S i)
theorem Ah.j0 {a:Nat}{S:Nat->zA}{C:Nat->List Value}(r:Ah w k lo a g N S C)(b:Below w w w'):Ah w' k lo a g N S C :=
 ⟨qo r.row b,r.glo,r.ghi,λi a=>(r.each i a).j0 b⟩
theorem Ah.wide {a:Nat}{S:Nat->zA}{C:Nat->List Value}(r:Ah w k lo a g N S C)(h1:lo'<=lo)(h2:a<=hi'):Ah w k lo' hi' g N S C :=
 ⟨r.row,Jp h1 r.glo,Nat.lt_of_lt_of_le r.ghi h2,λi a=>(r.each i a).wide (Jr _) h2⟩
theorem Ah.kept {a:Nat}{S:Nat->zA}{C:Nat->List Value}(r:Ah w k lo a g N S C)(d:zl w w' T)(c:∀ b,T b->b<lo∨a<=b):Ah w' k lo a g N S C :=
 ⟨r.row.of_block (d.block _ r.row.lt (λs=>by have:=c _ s;have:=r.glo;have:=r.ghi;omega)),r.glo,r.ghi,λi a=>(r.each i a).kept d (λb s=>by have:=c b s;have:=r.glo;omega)⟩
theorem Ah.at {S:Nat->zA}{C:Nat->List Value}(r:Ah w N lo b g N S C)(c:ZY N S 1048576):qL w (some ⟨g,0,none⟩) N S:=by
 refine⟨_,Qo.k1 r.row,λk a=>?_⟩
 rw[qi _ _ a];exact(r.each k a).is (c k a)
end
instance:Coe Int Value:=⟨.int .i64⟩
instance:Coe Bool Value:=⟨.bool⟩
instance:Coe ByteArray Value:=⟨.string⟩
instance (b i:Nat):CoeDep (Nat × Nat) (b,i) Addr:=⟨⟨b,i,none⟩⟩
instance (b i:Nat):CoeDep (Option (Nat × Nat)) (some (b,i)) (Option Addr):=⟨some ⟨b,i,none⟩⟩
instance (a:Option Addr) (n c:Nat):CoeDep (Option Addr × Nat × Nat) (a,n,c) Value:=⟨.slice a n c⟩
instance (b i n c:Nat):CoeDep (Option (Nat × Nat) × Nat × Nat) (some (b,i),n,c) Value:=⟨.slice (some ⟨b,i,none⟩) n c⟩
instance:CoeDep Unit () Value:=⟨int i64 0⟩
instance:CoeDep Prop True Value:=⟨.slice none 0 0⟩
instance:CoeDep Prop False Value:=⟨.string ⟨#[]⟩⟩
instance (x:Int):CoeDep (Option Int) (some x) (Option Value):=⟨some (int i64 x)⟩
instance (x:Bool):CoeDep (Option Bool) (some x) (Option Value):=⟨some (.bool x)⟩
instance (x:ByteArray):CoeDep (Option ByteArray) (some x) (Option Value):=⟨some (.string x)⟩
instance (a:Option Addr) (n c:Nat):CoeDep (Option (Option Addr × Nat × Nat)) (some (a,n,c)) (Option Value):=⟨some (.slice a n c)⟩
instance (b i n c:Nat):CoeDep (Option (Option (Nat × Nat) × Nat × Nat)) (some (some (b,i),n,c)) (Option Value):=⟨some (.slice (some ⟨b,i,none⟩) n c)⟩
instance:CoeDep (Option Unit) (some ()) (Option Value):=⟨some (int i64 0)⟩
instance:CoeDep (Option Prop) (some True) (Option Value):=⟨some (.slice none 0 0)⟩
instance (y:qD) (a:Option Addr) (c:Nat):CoeDep (qD × Option Addr × Nat) (y,a,c) (Array Value):=⟨#[y.d,y.j1,y.k,.slice a y.c c,y.v,y.f,y.j,y.w,y.h,y.x,y.y,y.D]⟩
instance (b:zA) (a:Option Addr) (c:Nat):CoeDep (zA × Option Addr × Nat) (b,a,c) (Array Value):=⟨#[b.k,b.e,b.j1,.slice a b.c c,b.v,b.f,b.j,b.w,b.h,b.x,b.C,b.y,b.j2]⟩
instance (y:qD) (b i c:Nat):CoeDep (qD × Option (Nat × Nat) × Nat) (y,some (b,i),c) (Array Value):=⟨(y,some (⟨b,i,none⟩:Addr),c)⟩
instance (y:zA) (b i c:Nat):CoeDep (zA × Option (Nat × Nat) × Nat) (y,some (b,i),c) (Array Value):=⟨(y,some (⟨b,i,none⟩:Addr),c)⟩
instance (s:qe) (a:Option Addr) (c:Nat) (b:Option Addr) (d:Nat):CoeDep (qe × Option Addr × Nat × Option Addr × Nat) (s,a,c,b,d) (Array Value):=⟨#[s.S,s.U,s.dst,s.O,s.T,.slice a s.la.n c,.slice b s.M.n d,s.N]⟩
section
variable{w w':World}{d a:Option Addr}{n i g t k j e c:Nat}{u:Value}
structure ql where
 e:Int
 ln:Int
 f:Int
 j:Int
def ql.zero:ql:=⟨0,0,0,0⟩
instance:Inhabited ql:=⟨ql.zero⟩
def qx (w:World)(a:Option Addr)(n:Nat)(S:Nat->ql):Prop :=
 ∀ k,k<n->∃ b off,a=some ⟨b,off,none⟩/\w.cell? ⟨b,off+k*4,none⟩=some (int i64 (S k).e)/\w.cell? ⟨b,off+k*4+1,none⟩=some (int i64 (S k).ln)/\w.cell? ⟨b,off+k*4+2,none⟩=some (int i64 (S k).f)/\w.cell? ⟨b,off+k*4+3,none⟩=some (int i64 (S k).j)
theorem qx.j0 {S:Nat->ql}(h:qx w d n S)(c:Below w w w'):qx w' d n S:=by
 intro k g;obtain⟨b,off,e,f,h1,h2,h3⟩:=h k g;have a:b<w.heap.size:=Ja w _ f;exact⟨b,off,e,tR c f a,tR c h1 a,tR c h2 a,tR c h3 a⟩
theorem qx.j9 {S:Nat->ql}(h:qx w a n S)(hi:i<=n):qx w a i S:=λk hk=>h k oM
def qv (S:Nat->ql)(j:Nat):Value :=
 if j % 4=0 then int i64 (S (j / 4)).e else if j % 4=1 then int i64 (S (j / 4)).ln else if j % 4=2 then int i64 (S (j / 4)).f else int i64 (S (j / 4)).j
theorem BG (S:Nat->ql)(k:Nat):qv S (k*4)=int i64 (S k).e:=by
 unfold qv;rw[Jf oM,show k*4 / 4=k by omega]
theorem BH (S:Nat->ql)(k:Nat):qv S (k*4+1)=int i64 (S k).ln:=by
 unfold qv;rw[Je oM,Jf oM,show(k*4+1) / 4=k by omega]
theorem BI (S:Nat->ql)(k:Nat):qv S (k*4+2)=int i64 (S k).f:=by
 unfold qv;rw[Je oM,Je oM,Jf oM,show(k*4+2) / 4=k by omega]
theorem BJ (S:Nat->ql)(k:Nat):qv S (k*4+3)=int i64 (S k).j:=by
 unfold qv;rw[Je oM,Je oM,Je oM,show(k*4+3) / 4=k by omega]
theorem qx.k1 {S:Nat->ql}(h:w.rowIs g t (n*4) (qv S)):qx w (some ⟨g,0,none⟩) n S:=by
 intro k hk;refine⟨g,0,rfl,?_,?_,?_,?_⟩
 ·rw[Nat.zero_add,h.cell oM,BG]
 ·rw[Nat.zero_add,h.cell oM,BH]
 ·rw[Nat.zero_add,h.cell oM,BI]
 ·rw[Nat.zero_add,h.cell oM,BJ]
theorem RB (n:Nat)(j:Nat)(a:j<n*4):(madeCells (Value.agg #[(),(),(),()]).cells (n*4)).toList.getD j (.bool false)=qv (λ_=>ql.zero) j:=by
 have b:(Value.agg #[_,_,_,_]).cells=#[int i64 0,int i64 0,int i64 0,int i64 0]:=rfl;rw[b];simp only[madeCells,Array.toList_map,List.getD_eq_getElem?_getD,List.getElem?_map,Array.toList_range,List.getElem?_range a,Option.map_some,Option.getD_some];unfold qv;have:j % 4=0∨j % 4=1∨j % 4=2∨j % 4=3:=oM
 rcases this with h|h|h|h <;> simp[h,ql.zero]
theorem ey {S S':Nat->ql}(h:w.rowIs g t n (qv S))(a:∀ i,i≠k->S' i=S i) :
  ((((w.setCell (g,k*4) (S' k).e).setCell (g,k*4+1) (S' k).ln).setCell (g,k*4+2) (S' k).f).setCell (g,k*4+3) (S' k).j).rowIs g t n (qv S'):=by
 refine((((h.set _ _).set _ _).set _ _).set _ _).congr λj _=>?_
 by_cases h3:j=k*4+3
 ·subst h3;rw[Jf rfl,BJ]
 rw[Je h3]
 by_cases h2:j=k*4+2
 ·subst h2;rw[Jf rfl,BI]
 rw[Je h2]
 by_cases h1:j=k*4+1
 ·subst h1;rw[Jf rfl,BH]
 rw[Je h1]
 by_cases h0:j=k*4
 ·subst h0;rw[Jf rfl,BG]
 rw[Je h0];have b:j / 4≠k:=oM;unfold qv;rw[a _ b]
def zH (S:Nat->ql)(n:Nat):List Value:=(List.range (n*4)).map (qv S)
theorem Qg (S:Nat->ql)(n:Nat):(zH S n).length=n*4:=by simp[zH]
theorem Ny {S:Nat->ql}(h:(zH S n)[j]?=some u):j<n*4/\u=qv S j:=by
 unfold zH at h;rw[List.getElem?_map] at h
 by_cases hj:j<n*4
 ·rw[List.getElem?_range hj] at h;simp at h;exact⟨hj,h.symm⟩
 ·rw[List.getElem?_eq_none (by simpa using hj)] at h;cases h
theorem Ai (S:Nat->ql)(n:Nat):∀ u ∈ zH S n,u.oneCell'=true:=by
 intro u a;unfold zH at a;simp only[List.mem_map] at a;obtain⟨j,_,rfl⟩:=a;unfold qv
 repeat' split
 all_goals rfl
theorem AN (S:Nat->ql)(k:Nat):zH S (k+1)=zH S k++[int i64 (S k).e,int i64 (S k).ln,int i64 (S k).f,int i64 (S k).j]:=by
 unfold zH;rw[show(k+1)*4=k*4+1+1+1+1 by omega,List.range_succ,List.range_succ,List.range_succ,List.range_succ]
 simp only[List.map_append,List.map_cons,List.map_nil,List.append_assoc,List.cons_append,List.nil_append,BG,BH,BI,BJ]
theorem Da {S S':Nat->ql}(h:∀ i,i<n->S i=S' i):zH S n=zH S' n:=by
 unfold zH;refine List.map_congr_left (λj a=>?_)
 have b:=by simpa using a
 unfold qv;rw[h _ oM]
def QB (S:Nat->ql)(n:Nat)(T:Nat->ql)(i:Nat):ql:=if i<n then S i else T (i - n)
theorem Gq (S T:Nat->ql)(n j:Nat):zH (QB S n T) (n+j)=zH S n++zH T j:=by
 induction j with
 |zero =>
  have:zH T 0=[]:=by simp[zH]
  rw[this,List.append_nil,Nat.add_zero];exact Da (λi a=>Jf a)
 |succ j ih =>
  rw[show n+(j+1)=n+j+1 by omega,AN,AN,ih,List.append_assoc]
  have:QB S n T (n+j)=T j:=by unfold QB;rw[Je oM,show n+j - n=j by omega]
  rw[this]
theorem AA {f:Option Addr}{S:Nat->ql}(h:qx w f n S):∀ c,f=some c->∀ j u,(zH S n)[j]?=some u->w.cell? (c.add j)=some u:=by
 intro c e j u i;obtain⟨hj,rfl⟩:=Ny i;obtain⟨b,off,d,g,h1,h2,h3⟩:=h (j / 4) oM;rw[e] at d;simp only[Option.some.injEq] at d;subst d;rw[Addr.add_lit];have a:j % 4=0∨j % 4=1∨j % 4=2∨j % 4=3:=oM
 rcases a with a|a|a|a
 ·rw[show off+j=off+j / 4*4 by omega,g];unfold qv;simp[a]
 ·rw[show off+j=off+j / 4*4+1 by omega,h1];unfold qv;simp[a]
 ·rw[show off+j=off+j / 4*4+2 by omega,h2];unfold qv;simp[a]
 ·rw[show off+j=off+j / 4*4+3 by omega,h3];unfold qv;simp[a]
theorem Cv {base:Nat}{S:Nat->ql}(h:w.ownsRow base e 4 (.slice a n c) n (zH S n)):qx w a n S:=by
 intro k hk;obtain⟨g,rfl,_,_⟩:=qr h oM;have b:=zs h (k*4) oM rfl;rw[BG] at b;have c1:=zs h (k*4+1) oM rfl;rw[BH] at c1;have c2:=zs h (k*4+2) oM rfl;rw[BI] at c2;have c3:=zs h (k*4+3) oM rfl;rw[BJ] at c3;exact⟨g,0,rfl,by rw[Nat.zero_add];exact b,by rw[Nat.zero_add];exact c1,by rw[Nat.zero_add];exact c2,by rw[Nat.zero_add];exact c3⟩
end
theorem Tryz.infoStay:(Tryz.prog.info? 220).map (λi=>(i.zero,i.size,i.bytes))=some (some (.agg #[int i64 0,int i64 0,int i64 0,int i64 0]),4,32):=kR
section
variable{w w':World}{d a:Option Addr}{n i g t k j e c:Nat}{u:Value}
structure zU where
 e:Int
 H:Int
 z:Int
 h:Bool
def zU.zero:zU:=⟨0,0,0,false⟩
instance:Inhabited zU:=⟨zU.zero⟩
def qn (w:World)(a:Option Addr)(n:Nat)(S:Nat->zU):Prop :=
 ∀ k,k<n->∃ b off,a=some ⟨b,off,none⟩/\w.cell? ⟨b,off+k*4,none⟩=some (int i64 (S k).e)/\w.cell? ⟨b,off+k*4+1,none⟩=some (int i64 (S k).H)/\w.cell? ⟨b,off+k*4+2,none⟩=some (int i64 (S k).z)/\w.cell? ⟨b,off+k*4+3,none⟩=some (.bool (S k).h)
theorem qn.j0 {S:Nat->zU}(h:qn w d n S)(c:Below w w w'):qn w' d n S:=by
 intro k g;obtain⟨b,off,e,f,h1,h2,h3⟩:=h k g;have a:b<w.heap.size:=Ja w _ f;exact⟨b,off,e,tR c f a,tR c h1 a,tR c h2 a,tR c h3 a⟩
theorem qn.j9 {S:Nat->zU}(h:qn w a n S)(hi:i<=n):qn w a i S:=λk hk=>h k oM
def qs (S:Nat->zU)(j:Nat):Value :=
 if j % 4=0 then int i64 (S (j / 4)).e else if j % 4=1 then int i64 (S (j / 4)).H else if j % 4=2 then int i64 (S (j / 4)).z else .bool (S (j / 4)).h
theorem Ba (S:Nat->zU)(k:Nat):qs S (k*4)=int i64 (S k).e:=by
 unfold qs;rw[Jf oM,show k*4 / 4=k by omega]
theorem Bc (S:Nat->zU)(k:Nat):qs S (k*4+1)=int i64 (S k).H:=by
 unfold qs;rw[Je oM,Jf oM,show(k*4+1) / 4=k by omega]
theorem Bd (S:Nat->zU)(k:Nat):qs S (k*4+2)=int i64 (S k).z:=by
 unfold qs;rw[Je oM,Je oM,Jf oM,show(k*4+2) / 4=k by omega]
theorem Be (S:Nat->zU)(k:Nat):qs S (k*4+3)=.bool (S k).h:=by
 unfold qs;rw[Je oM,Je oM,Je oM,show(k*4+3) / 4=k by omega]
theorem qn.k1 {S:Nat->zU}(h:w.rowIs g t (n*4) (qs S)):qn w (some ⟨g,0,none⟩) n S:=by
 intro k hk;refine⟨g,0,rfl,?_,?_,?_,?_⟩
 ·rw[Nat.zero_add,h.cell oM,Ba]
 ·rw[Nat.zero_add,h.cell oM,Bc]
 ·rw[Nat.zero_add,h.cell oM,Bd]
 ·rw[Nat.zero_add,h.cell oM,Be]
theorem RD (n:Nat)(j:Nat)(a:j<n*4):(madeCells (Value.agg #[(),(),(),.bool false]).cells (n*4)).toList.getD j (.bool false)=qs (λ_=>zU.zero) j:=by
 have b:(Value.agg #[_,_,_,_]).cells=#[int i64 0,int i64 0,int i64 0,.bool false]:=rfl;rw[b];simp only[madeCells,Array.toList_map,List.getD_eq_getElem?_getD,List.getElem?_map,Array.toList_range,List.getElem?_range a,Option.map_some,Option.getD_some];unfold qs;have:j % 4=0∨j % 4=1∨j % 4=2∨j % 4=3:=oM
 rcases this with h|h|h|h <;> simp[h,zU.zero]
theorem ez {S S':Nat->zU}(h:w.rowIs g t n (qs S))(a:∀ i,i≠k->S' i=S i) :
  ((((w.setCell (g,k*4) (S' k).e).setCell (g,k*4+1) (S' k).H).setCell (g,k*4+2) (S' k).z).setCell (g,k*4+3) (S' k).h).rowIs g t n (qs S'):=by
 refine((((h.set _ _).set _ _).set _ _).set _ _).congr λj _=>?_
 by_cases h3:j=k*4+3
 ·subst h3;rw[Jf rfl,Be]
 rw[Je h3]
 by_cases h2:j=k*4+2
 ·subst h2;rw[Jf rfl,Bd]
 rw[Je h2]
 by_cases h1:j=k*4+1
 ·subst h1;rw[Jf rfl,Bc]
 rw[Je h1]
 by_cases h0:j=k*4
 ·subst h0;rw[Jf rfl,Ba]
 rw[Je h0];have b:j / 4≠k:=oM;unfold qs;rw[a _ b]
def zF (S:Nat->zU)(n:Nat):List Value:=(List.range (n*4)).map (qs S)
theorem qW (S:Nat->zU)(n:Nat):(zF S n).length=n*4:=by simp[zF]
theorem Gr {S:Nat->zU}(h:(zF S n)[j]?=some u):j<n*4/\u=qs S j:=by
 unfold zF at h;rw[List.getElem?_map] at h
 by_cases hj:j<n*4
 ·rw[List.getElem?_range hj] at h;simp at h;exact⟨hj,h.symm⟩
 ·rw[List.getElem?_eq_none (by simpa using hj)] at h;cases h
theorem Qp (S:Nat->zU)(n:Nat):∀ u ∈ zF S n,u.oneCell'=true:=by
 intro u a;unfold zF at a;simp only[List.mem_map] at a;obtain⟨j,_,rfl⟩:=a;unfold qs
 repeat' split
 all_goals rfl
theorem Aq (S:Nat->zU)(k:Nat):zF S (k+1)=zF S k++[int i64 (S k).e,int i64 (S k).H,int i64 (S k).z,.bool (S k).h]:=by
 unfold zF;rw[show(k+1)*4=k*4+1+1+1+1 by omega,List.range_succ,List.range_succ,List.range_succ,List.range_succ]
 simp only[List.map_append,List.map_cons,List.map_nil,List.append_assoc,List.cons_append,List.nil_append,Ba,Bc,Bd,Be]
theorem EX {S S':Nat->zU}(h:∀ i,i<n->S i=S' i):zF S n=zF S' n:=by
 unfold zF;refine List.map_congr_left (λj a=>?_)
 have b:=by simpa using a
 unfold qs;rw[h _ oM]
def Zu (S:Nat->zU)(n:Nat)(T:Nat->zU)(i:Nat):zU:=if i<n then S i else T (i - n)
theorem Gs (S T:Nat->zU)(n j:Nat):zF (Zu S n T) (n+j)=zF S n++zF T j:=by
 induction j with
 |zero =>
  have:zF T 0=[]:=by simp[zF]
  rw[this,List.append_nil,Nat.add_zero];exact EX (λi a=>Jf a)
 |succ j ih =>
  rw[show n+(j+1)=n+j+1 by omega,Aq,Aq,ih,List.append_assoc]
  have:Zu S n T (n+j)=T j:=by unfold Zu;rw[Je oM,show n+j - n=j by omega]
  rw[this]
theorem QN {f:Option Addr}{S:Nat->zU}(h:qn w f n S):∀ c,f=some c->∀ j u,(zF S n)[j]?=some u->w.cell? (c.add j)=some u:=by
 intro c e j u i;obtain⟨hj,rfl⟩:=Gr i;obtain⟨b,off,d,g,h1,h2,h3⟩:=h (j / 4) oM;rw[e] at d;simp only[Option.some.injEq] at d;subst d;rw[Addr.add_lit];have a:j % 4=0∨j % 4=1∨j % 4=2∨j % 4=3:=oM
 rcases a with a|a|a|a
 ·rw[show off+j=off+j / 4*4 by omega,g];unfold qs;simp[a]
 ·rw[show off+j=off+j / 4*4+1 by omega,h1];unfold qs;simp[a]
 ·rw[show off+j=off+j / 4*4+2 by omega,h2];unfold qs;simp[a]
 ·rw[show off+j=off+j / 4*4+3 by omega,h3];unfold qs;simp[a]
theorem Aj {base:Nat}{S:Nat->zU}(h:w.ownsRow base e 4 (.slice a n c) n (zF S n)):qn w a n S:=by
 intro k hk;obtain⟨g,rfl,_,_⟩:=qr h oM;have b:=zs h (k*4) oM rfl;rw[Ba] at b;have c1:=zs h (k*4+1) oM rfl;rw[Bc] at c1;have c2:=zs h (k*4+2) oM rfl;rw[Bd] at c2;have c3:=zs h (k*4+3) oM rfl;rw[Be] at c3;exact⟨g,0,rfl,by rw[Nat.zero_add];exact b,by rw[Nat.zero_add];exact c1,by rw[Nat.zero_add];exact c2,by rw[Nat.zero_add];exact c3⟩
end
theorem Tryz.infoRoom:(Tryz.prog.info? 228).map (λi=>(i.zero,i.size,i.bytes))=some (some (.agg #[int i64 0,int i64 0,int i64 0,.bool false]),4,32):=kR
section
variable{w w':World}{n i g t k j e c:Nat}{a:Option Addr}{u:Value}
structure qO where
 e:Int
 z:Int
def qO.zero:qO:=⟨0,0⟩
instance:Inhabited qO:=⟨qO.zero⟩
def qC (w:World)(a:Option Addr)(n:Nat)(S:Nat->qO):Prop :=
 ∀ k,k<n->∃ b off,a=some ⟨b,off,none⟩/\w.cell? ⟨b,off+k*2,none⟩=some (int i64 (S k).e)/\w.cell? ⟨b,off+k*2+1,none⟩=some (int i64 (S k).z)
theorem qC.j0 {c:Option Addr}{S:Nat->qO}(h:qC w c n S)(f:Below w w w'):qC w' c n S:=by
 intro k g;obtain⟨b,off,e,d,h1⟩:=h k g;have a:b<w.heap.size:=Ja w _ d;exact⟨b,off,e,tR f d a,tR f h1 a⟩
theorem qC.j9 {S:Nat->qO}(h:qC w a n S)(hi:i<=n):qC w a i S:=λk hk=>h k oM
def qK (S:Nat->qO)(j:Nat):Value :=
 if j % 2=0 then int i64 (S (j / 2)).e else int i64 (S (j / 2)).z
theorem Bf (S:Nat->qO)(k:Nat):qK S (k*2)=int i64 (S k).e:=by
 unfold qK;rw[Jf oM,show k*2 / 2=k by omega]
theorem Bg (S:Nat->qO)(k:Nat):qK S (k*2+1)=int i64 (S k).z:=by
 unfold qK;rw[Je oM,show(k*2+1) / 2=k by omega]
theorem qC.k1 {S:Nat->qO}(h:w.rowIs g t (n*2) (qK S)):qC w (some ⟨g,0,none⟩) n S:=by
 intro k hk;refine⟨g,0,rfl,?_,?_⟩
 ·rw[Nat.zero_add,h.cell oM,Bf]
 ·rw[Nat.zero_add,h.cell oM,Bg]
theorem RH (n:Nat)(j:Nat)(a:j<n*2):(madeCells (Value.agg #[(),()]).cells (n*2)).toList.getD j (.bool false)=qK (λ_=>qO.zero) j:=by
 have b:(Value.agg #[_,_]).cells=#[int i64 0,int i64 0]:=rfl;rw[b];simp only[madeCells,Array.toList_map,List.getD_eq_getElem?_getD,List.getElem?_map,Array.toList_range,List.getElem?_range a,Option.map_some,Option.getD_some];unfold qK;have:j % 2=0∨j % 2=1:=oM
 rcases this with h|h <;> simp[h,qO.zero]
theorem fa {S S':Nat->qO}(h:w.rowIs g t n (qK S))(a:∀ i,i≠k->S' i=S i) :
  ((w.setCell (g,k*2) (S' k).e).setCell (g,k*2+1) (S' k).z).rowIs g t n (qK S'):=by
 refine((h.set _ _).set _ _).congr λj _=>?_
 by_cases h1:j=k*2+1
 ·subst h1;rw[Jf rfl,Bg]
 rw[Je h1]
 by_cases h0:j=k*2
 ·subst h0;rw[Jf rfl,Bf]
 rw[Je h0];have b:j / 2≠k:=oM;unfold qK;rw[a _ b]
def zL (S:Nat->qO)(n:Nat):List Value:=(List.range (n*2)).map (qK S)
theorem Zv (S:Nat->qO)(n:Nat):(zL S n).length=n*2:=by simp[zL]
theorem Gt {S:Nat->qO}(h:(zL S n)[j]?=some u):j<n*2/\u=qK S j:=by
 unfold zL at h;rw[List.getElem?_map] at h
 by_cases hj:j<n*2
 ·rw[List.getElem?_range hj] at h;simp at h;exact⟨hj,h.symm⟩
 ·rw[List.getElem?_eq_none (by simpa using hj)] at h;cases h
theorem AG (S:Nat->qO)(n:Nat):∀ u ∈ zL S n,u.oneCell'=true:=by
 intro u a;unfold zL at a;simp only[List.mem_map] at a;obtain⟨j,_,rfl⟩:=a;unfold qK
 repeat' split
 all_goals rfl
theorem AO (S:Nat->qO)(k:Nat):zL S (k+1)=zL S k++[int i64 (S k).e,int i64 (S k).z]:=by
 unfold zL;rw[show(k+1)*2=k*2+1+1 by omega,List.range_succ,List.range_succ]
 simp only[List.map_append,List.map_cons,List.map_nil,List.append_assoc,List.cons_append,List.nil_append,Bf,Bg]
theorem EY {S S':Nat->qO}(h:∀ i,i<n->S i=S' i):zL S n=zL S' n:=by
 unfold zL;refine List.map_congr_left (λj a=>?_)
 have b:=by simpa using a
 unfold qK;rw[h _ oM]
def Ak (S:Nat->qO)(n:Nat)(T:Nat->qO)(i:Nat):qO:=if i<n then S i else T (i - n)
theorem NB (S T:Nat->qO)(n j:Nat):zL (Ak S n T) (n+j)=zL S n++zL T j:=by
 induction j with
 |zero =>
  have:zL T 0=[]:=by simp[zL]
  rw[this,List.append_nil,Nat.add_zero];exact EY (λi a=>Jf a)
 |succ j ih =>
  rw[show n+(j+1)=n+j+1 by omega,AO,AO,ih,List.append_assoc]
  have:Ak S n T (n+j)=T j:=by unfold Ak;rw[Je oM,show n+j - n=j by omega]
  rw[this]
theorem Bj {f:Option Addr}{S:Nat->qO}(h:qC w f n S):∀ c,f=some c->∀ j u,(zL S n)[j]?=some u->w.cell? (c.add j)=some u:=by
 intro c e j u i;obtain⟨hj,rfl⟩:=Gt i;obtain⟨b,off,d,g,h1⟩:=h (j / 2) oM;rw[e] at d;simp only[Option.some.injEq] at d;subst d;rw[Addr.add_lit];have a:j % 2=0∨j % 2=1:=oM
 rcases a with a|a
 ·rw[show off+j=off+j / 2*2 by omega,g];unfold qK;simp[a]
 ·rw[show off+j=off+j / 2*2+1 by omega,h1];unfold qK;simp[a]
theorem Al {base:Nat}{S:Nat->qO}(h:w.ownsRow base e 2 (.slice a n c) n (zL S n)):qC w a n S:=by
 intro k hk;obtain⟨g,rfl,_,_⟩:=qr h oM;have b:=zs h (k*2) oM rfl;rw[Bf] at b;have c1:=zs h (k*2+1) oM rfl;rw[Bg] at c1;exact⟨g,0,rfl,by rw[Nat.zero_add];exact b,by rw[Nat.zero_add];exact c1⟩
end
theorem Tryz.infoSeat:(Tryz.prog.info? 234).map (λi=>(i.zero,i.size,i.bytes))=some (some (.agg #[int i64 0,int i64 0]),2,16):=kR
section
variable{w w':World}{cs:List Value}{lo j i lo' hi' g N k b:Nat}{S T:Nat->Prop}{a:Option Addr}
structure zw where
 r:Nat
 K:Nat->ql
 m:Nat
 I:Nat->zU
 t:Nat
 L:Nat->qO
def zw.Is (w:World)(cs:List Value)(x:zw):Prop :=
 ∃ ast cst aro cro ase cse,cs=[.slice ast x.r cst,.slice aro x.m cro,.slice ase x.t cse]/\qx w ast x.r x.K/\qm ast x.r cst/\qn w aro x.m x.I/\qm aro x.m cro/\qC w ase x.t x.L/\qm ase x.t cse
theorem zw.Is.j0 {x:zw}(h:zw.Is w cs x)(i:Below w w w'):zw.Is w' cs x:=by
 obtain⟨c,g,a,d,b,f,e,l,o,j,m,k,n⟩:=h;exact⟨c,g,a,d,b,f,e,l.j0 i,o,j.j0 i,m,k.j0 i,n⟩
def zw.Short (x:zw)(B:Nat):Prop:=x.r<=B/\x.m<=B/\x.t<=B
def zw.In (w:World)(lo a:Nat)(cs:List Value)(x:zw):Prop :=
 ∃ lst lro lse,cs=[Zw lst x.r,Zw lro x.m,Zw lse x.t]/\(lo<=lst/\lst<a/\w.rowIs lst 220 (x.r*4) (qv x.K))/\(lo<=lro/\lro<a/\w.rowIs lro 228 (x.m*4) (qs x.I))/\(lo<=lse/\lse<a/\w.rowIs lse 234 (x.t*2) (qK x.L))
theorem zw.In.j0 {x:zw}(h:zw.In w lo j cs x)(d:Below w w w'):zw.In w' lo j cs x:=by
 obtain⟨i,f,g,e,c,a,b⟩:=h;exact⟨i,f,g,e,⟨c.1,c.2.1,qo c.2.2 d⟩,⟨a.1,a.2.1,qo a.2.2 d⟩,⟨b.1,b.2.1,qo b.2.2 d⟩⟩
theorem zw.In.wide {x:zw}(h:zw.In w lo i cs x)(h1:lo'<=lo)(h2:i<=hi'):zw.In w lo' hi' cs x:=by
 obtain⟨g,d,f,e,c,a,b⟩:=h;exact⟨g,d,f,e,⟨Jp h1 c.1,Nat.lt_of_lt_of_le c.2.1 h2,c.2.2⟩,⟨Jp h1 a.1,Nat.lt_of_lt_of_le a.2.1 h2,a.2.2⟩,⟨Jp h1 b.1,Nat.lt_of_lt_of_le b.2.1 h2,b.2.2⟩⟩
theorem zw.In.kept {x:zw}(h:zw.In w lo g cs x)(i:zl w w' S)(f:∀ b,S b->b<lo∨g<=b):zw.In w' lo g cs x:=by
 obtain⟨l,j,k,e,d,a,c⟩:=h;exact⟨l,j,k,e,⟨d.1,d.2.1,d.2.2.of_block (i.block _ d.2.2.lt (λs=>by have:=f _ s;omega))⟩,⟨a.1,a.2.1,a.2.2.of_block (i.block _ a.2.2.lt (λs=>by have:=f _ s;omega))⟩,⟨c.1,c.2.1,c.2.2.of_block (i.block _ c.2.2.lt (λs=>by have:=f _ s;omega))⟩⟩
theorem zw.In.is {d:Nat}{x:zw}(h:zw.In w lo d cs x)(f:zw.Short x 1048576):zw.Is w cs x:=by
 obtain⟨j,g,i,e,c,a,b⟩:=h;obtain⟨m,k,l⟩:=f;exact⟨_,_,_,_,_,_,e,qx.k1 c.2.2,⟨Jr _,by omega,λh=>by cases h⟩,qn.k1 a.2.2,⟨Jr _,by omega,λh=>by cases h⟩,qC.k1 b.2.2,⟨Jr _,by omega,λh=>by cases h⟩⟩
def ZA (w:World)(a:Option Addr)(N:Nat)(S:Nat->zw):Prop:=∃ C,Qo w a N 3 C/\∀ k,k<N->zw.Is w (C k) (S k)
theorem ZA.j0 {S:Nat->zw}(h:ZA w a N S)(b:Below w w w'):ZA w' a N S:=by
 obtain⟨C,h1,h2⟩:=h;exact⟨C,h1.j0 b,λk c=>(h2 k c).j0 b⟩
def Zy (N:Nat)(S:Nat->zw)(B:Nat):Prop:=∀ i,i<N->zw.Short (S i) B
structure Am (w:World)(k lo a g N:Nat)(S:Nat->zw)(C:Nat->List Value):Prop where
 row:w.rowIs g 145 (N*3) (qd 3 (QM k C (#[True,True,True]:Array Value).toList))
 glo:lo<=g
 ghi:g<a
 each:∀ i,i<k->zw.In w (g+1) a (C i) (S i)
theorem Am.j0 {a:Nat}{S:Nat->zw}{C:Nat->List Value}(r:Am w k lo a g N S C)(b:Below w w w'):Am w' k lo a g N S C :=
 ⟨qo r.row b,r.glo,r.ghi,λi a=>(r.each i a).j0 b⟩
theorem Am.wide {a:Nat}{S:Nat->zw}{C:Nat->List Value}(r:Am w k lo a g N S C)(h1:lo'<=lo)(h2:a<=hi'):Am w k lo' hi' g N S C :=
 ⟨r.row,Jp h1 r.glo,Nat.lt_of_lt_of_le r.ghi h2,λi a=>(r.each i a).wide (Jr _) h2⟩
theorem Am.kept {a:Nat}{S:Nat->zw}{C:Nat->List Value}(r:Am w k lo a g N S C)(d:zl w w' T)(c:∀ b,T b->b<lo∨a<=b):Am w' k lo a g N S C :=
 ⟨r.row.of_block (d.block _ r.row.lt (λs=>by have:=c _ s;have:=r.glo;have:=r.ghi;omega)),r.glo,r.ghi,λi a=>(r.each i a).kept d (λb s=>by have:=c b s;have:=r.glo;omega)⟩
theorem Am.at {S:Nat->zw}{C:Nat->List Value}(r:Am w N lo b g N S C)(c:Zy N S 1048576):ZA w (some (g,0)) N S:=by
 refine⟨_,Qo.k1 r.row,λk a=>?_⟩
 rw[qi _ _ a];exact(r.each k a).is (c k a)
end
structure zy (W:World) where
 val:World
 o:Below W.heap.size W val
instance (W:World):Nonempty (zy W):=⟨⟨W,bZ⟩⟩
theorem ze {P:Program}{id:Nat}{Q:Exit->Act->World->Prop}{a:Act}{w:World}{l:List Oper}(d:P.follows .mixedOrders=true)(c:Region.lexB .any l.toArray=true)
  (h:wpQuiet P l.toArray (λw'=>∃ g:zy w,w'=g.val) (λb=>∀ w',(∃ g:zy w,w'=g.val)->Q .normal b w') l a):(Code.region id l.toArray true).wp P Q a w :=
 wp_region_quiet (C:=λw'=>∃ g:zy w,w'=g.val) d c ⟨⟨_,(Ji _ w).drew⟩,rfl⟩ (by simpa using h)
theorem zr {P:Program}{f:FuncId}{args:Array Value}{W:World}{g:zy W}{v:Value}
  (h:Calls P f args g.val λe w'=>e=.returned v/\Below g.val.heap.size g.val w'):Calls P f args g.val λe a=>e=.returned v/\∃ g':zy W,a=g'.val :=
 h.mono λ_ w' ⟨he,hb⟩=>⟨he,⟨w',zb g.o hb⟩,rfl⟩
section
section
variable {w : World} {o1 o2 o3 o4 o : Obj} {n b : Nat}
theorem Qc (_h:Below n w (w.alloc o1)):(w.alloc o1).heap[w.heap.size]?=some o1:=(Jb w o1)
theorem nl (_h:Below n w (w.alloc o1)):(w.alloc o1).heap.size=w.heap.size+1:=sM
theorem Kv (_h:(w.alloc o1).heap[b]?=some o):Below w w (w.alloc o1):=zd bZ _
theorem Cs (_h:Below n w ((w.alloc o1).alloc o2)):((w.alloc o1).alloc o2).heap[w.heap.size]?=some o1:=(zg (Jb w o1) o2)
theorem Dt (_h:Below n w ((w.alloc o1).alloc o2)):((w.alloc o1).alloc o2).heap[w.heap.size+1]?=some o2:=(by simpa using Jb (w.alloc o1) o2:((w.alloc o1).alloc o2).heap[w.heap.size+1]?=some o2)
theorem lu (_h:((w.alloc o1).alloc o2).heap[b]?=some o):Below w w ((w.alloc o1).alloc o2):=zd (zd bZ _) _
theorem np (_h:((w.alloc o1).alloc o2).heap[b]?=some o):((w.alloc o1).alloc o2).heap[w.heap.size]?=some o1:=(zg (Jb w o1) o2)
theorem Kw (_h:((w.alloc o1).alloc o2).heap[b]?=some o):((w.alloc o1).alloc o2).heap[w.heap.size+1]?=some o2:=(by simpa using Jb (w.alloc o1) o2:((w.alloc o1).alloc o2).heap[w.heap.size+1]?=some o2)
theorem nq (_h:Below n w (((w.alloc o1).alloc o2).alloc o3)):(((w.alloc o1).alloc o2).alloc o3).heap[w.heap.size]?=some o1:=(zg (zg (Jb w o1) o2) o3)
theorem nr (_h:Below n w (((w.alloc o1).alloc o2).alloc o3)):(((w.alloc o1).alloc o2).alloc o3).heap[w.heap.size+1]?=some o2:=(zg (by simpa using Jb (w.alloc o1) o2:((w.alloc o1).alloc o2).heap[w.heap.size+1]?=some o2) o3)
theorem nt (_h:Below n w (((w.alloc o1).alloc o2).alloc o3)):(((w.alloc o1).alloc o2).alloc o3).heap[w.heap.size+1+1]?=some o3:=(by simpa using Jb ((w.alloc o1).alloc o2) o3:(((w.alloc o1).alloc o2).alloc o3).heap[w.heap.size+1+1]?=some o3)
theorem nu (_h:(((w.alloc o1).alloc o2).alloc o3).heap[b]?=some o):Below w w (((w.alloc o1).alloc o2).alloc o3):=zd (zd (zd bZ _) _) _
theorem nv (_h:(((w.alloc o1).alloc o2).alloc o3).heap[b]?=some o):(((w.alloc o1).alloc o2).alloc o3).heap[w.heap.size+1]?=some o2:=(zg (by simpa using Jb (w.alloc o1) o2:((w.alloc o1).alloc o2).heap[w.heap.size+1]?=some o2) o3)
theorem nw (_h:(((w.alloc o1).alloc o2).alloc o3).heap[b]?=some o):(((w.alloc o1).alloc o2).alloc o3).heap[w.heap.size+1+1]?=some o3:=(by simpa using Jb ((w.alloc o1).alloc o2) o3:(((w.alloc o1).alloc o2).alloc o3).heap[w.heap.size+1+1]?=some o3)
theorem nx (_h:(((w.alloc o1).alloc o2).alloc o3).heap[b]?=some o):(((w.alloc o1).alloc o2).alloc o3).heap.size=w.heap.size+1+1+1:=sM
theorem lw (_h:Below n w ((((w.alloc o1).alloc o2).alloc o3).alloc o4)):((((w.alloc o1).alloc o2).alloc o3).alloc o4).heap[w.heap.size+1+1+1]?=some o4:=(by simpa using Jb (((w.alloc o1).alloc o2).alloc o3) o4:((((w.alloc o1).alloc o2).alloc o3).alloc o4).heap[w.heap.size+1+1+1]?=some o4)
end
end
section
section
variable {n b t i : Nat} {w W : World} {p : Addr} {f : Option Value} {cs : Array Value} {v u : Value}
theorem gC (h:W.heap[b]?=some (.cells cs t (0,0)))(i:Nat)(a:cs[i]?=some v:=by exact rfl):∀ g:zy W,g.val.cell? ⟨b,i,none⟩=some v:=λg=>zf (za h g.o) i v a
theorem aC (h:W.heap[b]?=some (.cells cs t (0,0)))(i:Nat)(a:cs[i]?=some v:=by exact rfl):∀ o,(W.alloc o).cell? ⟨b,i,none⟩=some v:=λo=>zf (zg h o) i v a
theorem gT (e:W.cell? p=f)(l:p.block<W.heap.size):∀ g:zy W,g.val.cell? p=f:=λg=>(g.o.cell (p:=p) l).trans e
theorem gW (h:Below w.heap.size w W)(e:w.cell? p=f)(l:p.block<w.heap.size):∀ g:zy W,g.val.cell? p=f:=λg=>((zb h g.o).cell (p:=p) l).trans e
theorem rC {C a:List Value}{d:Value}(e:C=a)(h:w.cell? p=some (C.getD i d)):w.cell? p=some (a.getD i d):=e ▸ h
end
section
variable {P : Program} {F : FuncId} {a : Array Value} {W : World} {g : zy W} {u v : Value}
theorem gE (h:Calls P F a g.val λe w'=>e=.returned u/\w'=g.val)(q:u=v):Calls P F a g.val λe b=>e=.returned v/\∃ g':zy W,b=g'.val :=
 zr (h.mono (by rintro e w' ⟨rfl,rfl⟩;exact⟨by rw[q],bZ⟩))
theorem gF (h:Calls P F a g.val λe w'=>e=.returned u/\Below g.val.heap.size g.val w')(q:u=v):Calls P F a g.val λe c=>e=.returned v/\∃ g':zy W,c=g'.val :=
 zr (h.mono (by rintro e w' ⟨rfl,b⟩;exact⟨by rw[q],b⟩))
end
end
theorem Tryz.infoInt:(Tryz.prog.info? 3).map (λi=>(i.zero,i.size,i.bytes))=some (some (int i64 0),1,8):=kR
def Db (b:Int):Prop:=(97<=b/\b<=122)∨(65<=b/\b<=90)
def EZ (s:ByteArray)(k:Nat):Int:=if h:k<s.size then ((s[k]'h).toNat:Int) else 0
theorem Ha (s:ByteArray)(k:Nat)(h:k<s.size):((s[k]'h).toNat:Int)=EZ s k:=by unfold EZ;rw[dif_pos h]
instance (b:Int):Decidable (Db b):=by unfold Db;exact inferInstance
def Z7 (s:ByteArray):Prop:=1<=s.size/\s.size<=12/\∀ k,k<s.size->Db (EZ s k)
instance (s:ByteArray):Decidable (Z7 s):=by unfold Z7;exact inferInstance
def In (x lo a:Int):Prop:=lo<=x/\x<=a
instance (x lo a:Int):Decidable (In x lo a):=by unfold In;exact inferInstance
def Bk (p:zv)(most:Nat)(a b c d:Int):Prop:=p.n<=most/\∀ k,k<p.n->In (p.A k) a b/\In (p.B k) c d
def Ql (s:qe):Prop :=
 In s.S 1 99/\Z7 s.U/\Z7 s.dst/\s.U≠s.dst/\0<=s.O/\s.O<s.T/\s.T<=10000/\Bk s.la 4 1 5000 100 500/\Bk s.M 6 1 3 1 4/\In s.N 0 500
def At (N:Nat)(S:Nat->qe):Prop:=N<=6/\∀ k,k<N->Ql (S k)/\(0<k->(S (k - 1)).S<(S k).S)
theorem Kz {a b:ByteArray}(h:a.toList=b.toList):a=b:=by
 rw[ByteArray.toList_eq,ByteArray.toList_eq] at h;obtain⟨⟨x⟩⟩:=a;obtain⟨⟨y⟩⟩:=b;simp at h;rw[h]
theorem Fa {a b:ByteArray}:(a.toList == b.toList)=true↔a=b:=by
 rw[beq_iff_eq];exact⟨Kz,λh=>by rw[h]⟩
theorem Gu {a b:ByteArray}:(a.toList == b.toList)=false↔a≠b:=by
 rw[beq_eq_false_iff_ne];exact⟨λh e=>h (by rw[e]),λh e=>h (Kz e)⟩
def Ek (a b:ByteArray):Prop:=Z7 a/\Z7 b/\a≠b
instance (a b:ByteArray):Decidable (Ek a b):=by unfold Ek;exact inferInstance
theorem Tp {a b:Bool}{P:Prop}(h1:a=true↔P)(h2:b=true↔P):a=b:=by
 cases a <;> cases b <;> simp_all
structure ZP where
 v:Int
 f:Int
 j:Int
 w:Int
 h:Bool
 x:Int
def Ce (l h:Int):Prop:=In l 1 2000/\In h 1 500
instance (l h:Int):Decidable (Ce l h):=by unfold Ce;exact inferInstance
def Fb (cl:Int)(all:Bool)(be:Int):Prop:=In cl 1 3/\((all=true/\be=0)∨(all=false/\In be 1 4))
instance (cl:Int) (all:Bool) (be:Int):Decidable (Fb cl all be):=by unfold Fb;exact inferInstance
def Zc (p:ZP):Prop:=In p.v 1 20/\((p.f=0/\p.j=0)∨Ce p.f p.j)/\((p.w=0/\p.h=false/\p.x=0)∨Fb p.w p.h p.x)
instance (p:ZP):Decidable (Zc p):=by unfold Zc;exact inferInstance
def Qd (l h:Int):Int:=if Ce l h then (if 600<l then 90+25*((l - 600+99) / 100) else if 450<l then 90 else 60)+(if 220<h then 30 else 0) else 0
def DS (cl:Int):Int:=if cl=1 then 30 else if cl=2 then 50 else 80
def Zs (cl:Int)(all:Bool)(be:Int):Int:=if Fb cl all be then (if all then 3*DS cl else DS cl*be) else 0
def Cm (pe legs n:Int):Int :=
 let a:=if 8<=pe then n - n / 20 else n
 if legs=3 then a - a / 10 else a
def zP (p:ZP)(legs:Int):Int:=Cm p.v legs (legs*(40*p.v+Qd p.f p.j+Zs p.w p.h p.x))
def QO (p:ZP)(legs:Int):Prop:=Zc p/\In legs 1 3
instance (p:ZP) (legs:Int):Decidable (QO p legs):=by unfold QO;exact inferInstance
def Z9 (price left:Int):Int:=if In price 0 1000000/\In left (-10000) 10000 then (if 100<=left then price else if 20<=left then price / 2 else 0) else 0
theorem Dc (l h:Int):0<=Qd l h/\Qd l h<=500:=by
 unfold Qd
 by_cases c:Ce l h
 ·have h1:=c.1
  unfold In at h1;rw[Jf c]
  repeat' split
  all_goals omega
 ·rw[Je c];omega
theorem BK (cl:Int)(all:Bool)(be:Int):0<=Zs cl all be/\Zs cl all be<=320:=by
 have hb:30<=DS cl/\DS cl<=80:=by unfold DS;repeat' split <;> omega
 unfold Zs
 by_cases c:Fb cl all be
 ·rw[Jf c]
  cases all with
  |true=>simp;omega
  |false =>
   rcases c.2 with⟨h,_⟩|⟨_,h⟩
   ·cases h
   ·unfold In at h
    have a:be=1∨be=2∨be=3∨be=4:=oM
    rcases a with rfl|rfl|rfl|rfl <;> simp <;> omega
 ·rw[Je c];omega
section
variable{w w':World}{lo g N lo' hi':Nat}{T:Nat->Prop}{cs:List Value}
structure Bp (w:World)(lo a g N:Nat)(S:Nat->qe)(l c:Nat->Nat):Prop where
 made:Af w 140 223 231 N lo g N S l c
 gh:g<a
 lh:∀ i,i<N->l i<a/\c i<a
theorem Bp.j0 {a:Nat}{S:Nat->qe}{l c:Nat->Nat}(r:Bp w lo a g N S l c)(b:Below w w w'):Bp w' lo a g N S l c:=⟨r.made.j0 b,r.gh,r.lh⟩
theorem Bp.wide {a:Nat}{S:Nat->qe}{l c:Nat->Nat}(r:Bp w lo a g N S l c)(h1:lo'<=lo)(h2:a<=hi'):Bp w lo' hi' g N S l c :=
 ⟨⟨r.made.row,Jp h1 r.made.lo,r.made.R,r.made.P,r.made.rise⟩,Nat.lt_of_lt_of_le r.gh h2,λi a=>⟨Nat.lt_of_lt_of_le (r.lh i a).1 h2,Nat.lt_of_lt_of_le (r.lh i a).2 h2⟩⟩
theorem Bp.kept {a:Nat}{S:Nat->qe}{l c:Nat->Nat}(r:Bp w lo a g N S l c)(e:zl w w' T)(d:∀ b,T b->b<lo∨a<=b):Bp w' lo a g N S l c:=by
 have h0:=r.made.lo;have h1:=r.gh;refine⟨⟨r.made.row.of_block (e.block _ r.made.row.lt (λs=>by have:=d _ s;omega)),r.made.lo,λi a=>⟨(r.made.R i a).1,?_⟩,λi a=>⟨(r.made.P i a).1,?_⟩,r.made.rise⟩,r.gh,r.lh⟩
 ·have h2:=(r.made.R i a).1
  have h3:=(r.lh i a).1;exact(r.made.R i a).2.of_block (e.block _ (r.made.R i a).2.lt (λs=>by have:=d _ s;omega))
 ·have h2:=(r.made.R i a).1
  have h4:=(r.made.P i a).1;have h3:=(r.lh i a).2;exact(r.made.P i a).2.of_block (e.block _ (r.made.P i a).2.lt (λs=>by have:=d _ s;omega))
theorem Af.high {S:Nat->qe}{l c:Nat->Nat}(r:Af w 140 223 231 N lo g N S l c):Bp w lo w.heap.size g N S l c :=
 ⟨r,r.row.lt,λi a=>⟨(r.R i a).2.lt,(r.P i a).2.lt⟩⟩
structure zY where
 i:Nat
 G:Nat->qe
 l:Nat
 F:Nat->zw
 g:Nat
 u:Nat->zA
def zY.Is (w:World)(cs:List Value)(x:zY):Prop :=
 ∃ asa csa ald cld abk cbk,cs=[.slice asa x.i csa,.slice ald x.l cld,.slice abk x.g cbk]/\qy w asa x.i x.G/\qm asa x.i csa/\ZA w ald x.l x.F/\qm ald x.l cld/\qL w abk x.g x.u/\qm abk x.g cbk
theorem zY.Is.j0 {x:zY}(h:zY.Is w cs x)(i:Below w w w'):zY.Is w' cs x:=by
 obtain⟨c,g,b,f,a,d,e,h1,j,h2,k,h3,l⟩:=h;exact⟨c,g,b,f,a,d,e,h1.j0 i,j,h2.j0 i,k,h3.j0 i,l⟩
def zY.Short (x:zY)(B:Nat):Prop:=(x.i<=B/\Qz x.i x.G B)/\(x.l<=B/\Zy x.l x.F B)/\(x.g<=B/\ZY x.g x.u B)
def zY.In (w:World)(lo a:Nat)(cs:List Value)(x:zY):Prop :=
 ∃ m1 m2 gsa l c gld C gbk E,cs=[Zw gsa x.i,Zw gld x.l,Zw gbk x.g]/\(lo<=m1/\m1<=m2/\m2<=a)/\Bp w lo m1 gsa x.i x.G l c/\Am w x.l m1 m2 gld x.l x.F C/\Ah w x.g m2 a gbk x.g x.u E
theorem zY.In.j0 {x:zY}(h:zY.In w lo g cs x)(f:Below w w w'):zY.In w' lo g cs x:=by
 obtain⟨j,k,d,l,c,b,C,a,E,e,i,h1,h2,h3⟩:=h;exact⟨j,k,d,l,c,b,C,a,E,e,i,h1.j0 f,h2.j0 f,h3.j0 f⟩
theorem zY.In.is {a:Nat}{x:zY}(h:zY.In w lo a cs x)(j:zY.Short x 1048576):zY.Is w cs x:=by
 obtain⟨m1,m2,g,l,c,f,C,d,E,e,hm,h1,h2,h3⟩:=h;obtain⟨⟨n1,b⟩,⟨n2,k⟩,⟨n3,m⟩⟩:=j;exact⟨_,_,_,_,_,_,e,h1.made.sails (λi a=>(b i a).2.2.1) (λi a=>(b i a).2.2.2),⟨Jr _,by omega,λh=>by cases h⟩,h2.at k,⟨Jr _,by omega,λh=>by cases h⟩,h3.at m,⟨Jr _,by omega,λh=>by cases h⟩⟩
end
theorem RQ (x lo a:Int)(w:World)(h:In x lo a) :
  Calls prog 191 #[x,lo,a] w λe w'=>e=.returned (.bool true)/\w'=w:=by
 have e1:decide (lo<=x)=true:=by simpa using h.1
 have e2:decide (x<=a)=true:=by simpa using h.2
 clear h;go_enter func191,ntmps191;go_wp2;go_ret;exact⟨rfl,rfl⟩
theorem TG (x lo a:Int)(w:World)(h:¬ In x lo a) :
  Calls prog 191 #[x,lo,a] w λe w'=>e=.returned (.bool false)/\w'=w:=by
 by_cases h1:lo<=x
 ·have b:decide (lo<=x)=true:=by simpa using h1
  have e2:decide (x<=a)=false:=by simp;exact Int.not_le.1 (λh2=>h ⟨h1,h2⟩)
  clear h h1;go_enter func191,ntmps191;go_wp2;go_ret;exact⟨rfl,rfl⟩
 ·have b:decide (lo<=x)=false:=by simpa using h1
  clear h h1;go_enter func191,ntmps191;go_wp2;go_ret;exact⟨rfl,rfl⟩
theorem zx (x lo a:Int)(w:World) :
  Calls prog 191 #[x,lo,a] w λe w'=>e=.returned (.bool (decide (In x lo a)))/\w'=w:=by
 by_cases h:In x lo a
 ·rw[Jd h];exact RQ x lo a w h
 ·rw[Jc h];exact TG x lo a w h
def AP (f:Nat->Value)(q:Nat)(u:Value)(i:Nat):Value:=if i=q then u else f i
theorem qg (f:Nat->Value)(q:Nat)(u:Value):AP f q u q=u:=Jf rfl
theorem zV (f:Nat->Value)(q:Nat)(u:Value)(i:Nat)(h:i≠q):AP f q u i=f i:=Je h
theorem qY {row:Option Nat}(h:w.grownBy w' row):zl w w' (λb=>row=some b):=⟨h.os,h.tape,h.output,h.size,λi a c=>h.block i a (λe=>c e.symm)⟩
def Pr (l:List Int)(j:Nat):Int:=l.getD j 0
def AB (l:List Int):List Value:=qp (Pr l) l.length
theorem zu (w:World){l:Array Oper}{rest:List Oper}{o:Oper}{a:Act}{Q:Exit->Act->World->Prop}
  (B:o.guard=none) (s x:Operand) (t:TypeId) (k:o.op=Op.call { callee:=Callee.builtin Builtin.append,args:=#[s,x],argTypes:=#[t,t] })
  (base:Nat) (e:TypeId) (i:TypeInfo) (z:Value) (size bytes:Nat) (h1:P.underlying t=some (.slice e)) (h2:P.info? e=some i) (h3:i.zero=some z) (H:i.size=size) (I:i.bytes=bytes) (J:z.cells.size=size) (K:0<size)
  (v:Value) (n:Nat) (q:List Value) (D:a.eval s=v) (h:w.ownsRow base e size v n q)
  (sa:Option Addr) (m c:Nat) (b:List Value) (E:a.eval x=.slice sa m c) (g:sa=none->m=0/\c=0) (C:b.length=m*size) (L:∀ ad,sa=some ad->∀ j u,b[j]?=some u->w.cell? (ad.add j)=some u) (r:∀ u ∈ b,u.oneCell'=true)
  (F:n+m<=maxLen) (G:(n+m)*bytes<=140737488355328) (d:base<=w.heap.size)
  (A:∀ p w',w'.ownsRow base e size p (n+m) (q++b)->w.grownBy w' v.ownBlock->wpList P l Q rest (a.put o.dst p) w') :
  wpList P l Q (o :: rest) a w:=by
 cases sa with
 |none =>
  obtain⟨rfl,rfl⟩:=g rfl;have f:=List.eq_nil_of_length_eq_zero (by simpa using C)
  subst f;refine wpList_append_own_none B s x t k _ e i _ h1 h2 v n q D h E (A v w ?_ (World.grownBy.refl w _));rw[Nat.add_zero,List.append_nil];exact h
 |some ad =>
  refine wpList_append_own w B s x t k _ e i z _ _ h1 h2 h3 H I J K v n q D h ad m c _ E C (L ad rfl) r F G d ?_;intro p w' M y _;exact A p w' M y
theorem RR {c:List Int}(h:zS w d c.length (Pr c)):∀ a,d=some a->∀ j u,(AB c)[j]?=some u->w.cell? (a.add j)=some u:=by
 intro a e j u k;obtain⟨i,rfl⟩:=Dr _ _ _ _ k;obtain⟨b,off,f,g⟩:=h j i;rw[e] at f
 cases f
 rw[Addr.add_lit];exact g
theorem FN (a:List Int):(AB a).length=a.length:=by unfold AB;exact Qy _ _
theorem KJ (a:List Int):∀ u ∈ AB a,u.oneCell'=true:=Az _ _
theorem LW (a b:List Int):AB (a++b)=AB a++AB b:=by
 have c:∀ l,AB l=l.map (λx=>int i64 x):=by
  intro l;unfold AB qp Pr
  apply List.ext_getElem?
  intro i
  by_cases hi:i<l.length
  ·rw[List.getElem?_map,List.getElem?_range hi,List.getElem?_map,List.getElem?_eq_getElem hi]
   simp[List.getD_eq_getElem?_getD,List.getElem?_eq_getElem hi]
  ·rw[List.getElem?_eq_none (by simpa using hi),List.getElem?_eq_none (by simpa using hi)]
 rw[c,c,c,List.map_append]
theorem fk {base:Nat}{b:Option Addr}{a:List Int}(d:a.length=n)(h:w.ownsRow base e 1 (b,n,c) n (AB a)):zS w b n (Pr a):=by
 subst d;exact Bo h
section
theorem zQ {w:World}{base e size n:Nat}{v:Value}{k:List Value}(h:w.ownsRow base e size v n k){b t:Nat}{cs:Array Value}(a:w.heap[b]?=some (.cells cs t (0,0)))(f:e≠t):∀ g,v.ownBlock=some g->¬ g=b:=by
 rintro g c rfl
 rcases h.2 with⟨rfl,_⟩|⟨g',i,j,rfl,_,d,_⟩
 ·simp[Value.ownBlock] at c
 ·simp only[Value.ownBlock,Option.some.injEq] at c
  subst c;rw[d] at a;simp only[Option.some.injEq,Obj.cells.injEq] at a;exact f a.2.1
def AM (S:Nat->zA)(L:Nat->Value)(k:Nat):List Value :=
 [int i64 (S k).k,int i64 (S k).e,.string (S k).j1,L k,int i64 (S k).v,int i64 (S k).f,int i64 (S k).j,int i64 (S k).w,.bool (S k).h,int i64 (S k).x,int i64 (S k).C,int i64 (S k).y,int i64 (S k).j2]
def AQ (S:Nat->zA)(L:Nat->Value)(N:Nat):List Value:=(List.range (N*13)).map (qd 13 (AM S L))
structure Zq (w:World)(base:Nat)(v:Value)(N:Nat)(S:Nat->zA)(L:Nat->Value):Prop where
 row:w.ownsRow base 150 13 v N (AQ S L N)
 j4:∀ i,i<N->w.ownsRow base 3 1 (L i) (S i).c (qp (S i).J (S i).c)
 apart:∀ i j,i<j->j<N->∀ b,(L i).ownBlock=some b->(L j).ownBlock≠some b
theorem Gw (sz:Nat)(b:0<sz)(C a:Nat->List Value)(k:Nat)(c:List Value)(hv:c.length=sz)(d:∀ i,i<k->a i=C i)(f:a k=c) :
  (List.range ((k+1)*sz)).map (qd sz a)=(List.range (k*sz)).map (qd sz C)++c:=by
 apply List.ext_getElem?
 intro j;have h1:((List.range (k*sz)).map (qd sz C)).length=k*sz:=sM
 by_cases h:j<k*sz
 ·have g:=(Nat.div_lt_iff_lt_mul b).2 h
  rw[List.getElem?_append_left (by rw[h1];exact h),List.getElem?_map,List.getElem?_map,List.getElem?_range h,List.getElem?_range (by rw[Nat.add_mul];omega)]
  simp only[Option.map_some];unfold qd;rw[d _ g]
 ·rw[List.getElem?_append_right (by rw[h1];omega),h1,List.getElem?_map]
  by_cases h2:j<(k+1)*sz
  ·rw[List.getElem?_range h2]
   simp only[Option.map_some];obtain⟨i,rfl⟩:∃ i,j=k*sz+i:=⟨j - k*sz,by omega⟩
   have e:i<sz:=by rw[Nat.add_mul] at h2;omega
   rw[zO sz a k i e,f,Nat.add_sub_cancel_left,List.getD_eq_getElem?_getD,List.getElem?_eq_getElem oM]
   rfl
  ·rw[List.getElem?_eq_none (by simpa using h2),List.getElem?_eq_none (by rw[Nat.add_mul] at h2;omega)]
   rfl
theorem RS (S:Nat->zA)(L:Nat->Value)(k:Nat)(a:Value):AQ S (AP L k a) (k+1)=AQ S L k++AM S (AP L k a) k :=
 Gw 13 dC (AM S L) (AM S (AP L k a)) k _ rfl (λi hi=>by unfold AM;rw[zV _ _ _ _ oM]) rfl
section
variable {w w' : World} {base : Nat} {v : Value} {N : Nat} {S : Nat -> zA} {L : Nat -> Value}
theorem Zq.j0 (h:Zq w base v N S L)(a:Below w w w'):Zq w' base v N S L :=
 ⟨zm a h.row,λi b=>zm a (h.j4 i b),h.apart⟩
theorem Zq.j7 {T:Nat->Prop}(h:Zq w base v N S L)(e:zl w w' T)(c:∀ b,T b->∃ cs t,w.heap[b]?=some (.cells cs t (0,0))/\150≠t/\3≠t):Zq w' base v N S L :=
 ⟨e.j1 h.row (λg a s=>by obtain⟨cs,t,h1,h2,_⟩:=c g s;exact zQ h.row h1 h2 g a rfl),λi d=>e.j1 (h.j4 i d) (λg a s=>by obtain⟨cs,t,h1,_,h2⟩:=c g s;exact zQ (h.j4 i d) h1 h2 g a rfl),h.apart⟩
theorem Zq.lower {a b:Nat}(h:Zq w a v N S L)(c:b<=a):Zq w b v N S L :=
 ⟨zo h.row c,λi d=>zo (h.j4 i d) c,h.apart⟩
theorem Zq.nil (w:World)(base:Nat)(S:Nat->zA)(L:Nat->Value):Zq w base True 0 S L :=
 ⟨⟨rfl,.inl ⟨rfl,rfl⟩⟩,λi a=>by omega,λi j a hj=>by omega⟩
theorem Zq.is (h:Zq w base v N S L){k:Nat}(a:k<N):zA.Is w (AM S L k) (S k):=by
 obtain⟨f,g,e,b,c,d⟩:=zn (h.j4 k a);have o:=h.j4 k a;rw[e] at o;unfold maxLen at c;exact⟨f,g,by unfold AM;rw[e],Bo o,⟨b,by omega,d⟩⟩
theorem Zq.at {a:Option Addr}{c:Nat}(h:Zq w base (a,N,c) N S L):qL w a N S:=by
 refine⟨_,λk b=>?_,λk b=>h.is b⟩
 obtain⟨g,rfl,_,_⟩:=qr h.row oM;refine⟨g,0,rfl,λj d=>?_⟩
 rw[Nat.zero_add,zs h.row _ oM rfl,zO 13 _ k j d]
theorem Zq.k3 {k:Nat}{r p:Value}{lim:Nat}(h:Zq w base v k S L)(n:∀ i,i<k->∀ b,(L i).ownBlock=some b->b<lim)
  (o:w.ownsRow lim 3 1 p (S k).c (qp (S k).J (S k).c)) (l:base<=lim) (s:w.grownBy w' v.ownBlock)
  (t:w'.ownsRow base 150 13 r (k+1) (AQ S L k++AM S (AP L k p) k)):Zq w' base r (k+1) S (AP L k p):=by
 have q:=qY s;refine⟨by rw[RS];exact t,λi hi=>?_,λi j m hj=>?_⟩
 ·by_cases e:i=k
  ·subst e;rw[qg];exact q.j1 (zo o l) (λg d f=>zE h.row (zo o l) dC g f d)
  ·rw[zV _ _ _ _ e];exact q.j1 (h.j4 i oM) (λg d f=>zE h.row (h.j4 i oM) dC g f d)
 ·by_cases e:j=k
  ·subst e
   rw[qg,zV _ _ _ _ oM];intro b h1 h3;have a:=n i m b h1;have c:=(o.lt b h3).1
   omega
  ·rw[zV _ _ _ _ e,zV _ _ _ _ oM]
   exact h.apart i j m oM
theorem Zq.congr {S':Nat->zA}(h:Zq w base v N S L)(e:∀ i,i<N->S i=S' i):Zq w base v N S' L:=by
 refine⟨?_,λi a=>by rw[← e i a];exact h.j4 i a,h.apart⟩
 have b:AQ S' L N=AQ S L N:=List.map_congr_left λj c=>by
  have d:=by simpa using c
  unfold qd AM;rw[e _ oM]
 rw[b];exact h.row
end
end
section
variable{j t c N:Nat}{u v:Value}{w w':World}{d a:Option Addr}{L C:Nat->Value}{T:Nat->Prop}
def qu (p:zv):List Value:=(List.range (p.n*2)).map (qj p)
theorem Bt (p:zv):(qu p).length=p.n*2:=by simp[qu]
theorem Pv {p:zv}(h:(qu p)[j]?=some u):j<p.n*2/\u=qj p j:=by
 unfold qu at h;rw[List.getElem?_map] at h
 by_cases hj:j<p.n*2
 ·rw[List.getElem?_range hj] at h;simp at h;exact⟨hj,h.symm⟩
 ·rw[List.getElem?_eq_none (by simpa using hj)] at h;cases h
theorem Dx (p:zv):∀ u ∈ qu p,u.oneCell'=true:=by
 intro u a;unfold qu at a;obtain⟨j,_,rfl⟩:=List.mem_map.1 a;unfold qj
 split <;> rfl
theorem Dy {p:zv}(h:zJ w d p):∀ a,d=some a->∀ j u,(qu p)[j]?=some u->w.cell? (a.add j)=some u:=by
 intro a e j u i;obtain⟨hj,rfl⟩:=Pv i;obtain⟨b,off,f,g,h1⟩:=h (j / 2) oM;rw[e] at f
 cases f
 rw[Addr.add_lit];unfold qj
 by_cases c:j % 2=0
 ·rw[Jf c,← g,show off+j / 2*2=off+j by omega]
 ·rw[Je c,← h1,show off+j / 2*2+1=off+j by omega]
theorem Gx {base:Nat}{p:zv}(h:w.ownsRow base t 2 (a,p.n,c) p.n (qu p)):zJ w a p:=by
 intro k hk;obtain⟨g,rfl,_,_⟩:=qr h oM;refine⟨g,0,rfl,?_,?_⟩
 ·rw[Nat.zero_add,zs h _ oM rfl,Ga]
 ·rw[Nat.zero_add,zs h _ oM rfl,Gb]
structure qR (w:World)(base:Nat)(v:Value)(N:Nat)(S:Nat->qe)(L C:Nat->Value):Prop where
 row:w.ownsRow base 140 8 v N ((List.range (N*8)).map (qz S L C))
 la:∀ i,i<N->w.ownsRow base 223 2 (L i) (S i).la.n (qu (S i).la)
 M:∀ i,i<N->w.ownsRow base 231 2 (C i) (S i).M.n (qu (S i).M)
 apart:∀ i j,i<j->j<N->(∀ b,(L i).ownBlock=some b->(L j).ownBlock≠some b)/\(∀ b,(C i).ownBlock=some b->(C j).ownBlock≠some b)
theorem qR.j0 {base:Nat}{S:Nat->qe}(h:qR w base v N S L C)(a:Below w w w'):qR w' base v N S L C :=
 ⟨zm a h.row,λi b=>zm a (h.la i b),λi b=>zm a (h.M i b),h.apart⟩
theorem qR.kept {base:Nat}{S:Nat->qe}(h:qR w base v N S L C)(e:zl w w' T)(d:∀ b,T b->b<base):qR w' base v N S L C :=
 ⟨e.j1 h.row (λg a s=>by have:=(h.row.lt g a).1;have:=d g s;omega),λi c=>e.j1 (h.la i c) (λg a s=>by have:=((h.la i c).lt g a).1;have:=d g s;omega),
  λi c=>e.j1 (h.M i c) (λg a s=>by have:=((h.M i c).lt g a).1;have:=d g s;omega),h.apart⟩
theorem qR.base {d:Nat}{S:Nat->qe}(h:qR w c v N S L C)(a:d<=c):qR w d v N S L C :=
 ⟨zo h.row a,λi b=>zo (h.la i b) a,λi b=>zo (h.M i b) a,h.apart⟩
theorem qR.at {base:Nat}{b:Option Addr}{S:Nat->qe}(h:qR w base (b,N,c) N S L C):qy w b N S:=by
 intro k a;obtain⟨g,rfl,_,_⟩:=qr h.row oM;obtain⟨la,o,d,l,m,n⟩:=zn (h.la k a);obtain⟨ca,j,e,c1,c2,c3⟩:=zn (h.M k a);have f:=h.la k a;have i:=h.M k a;rw[d] at f;rw[e] at i;refine⟨g,0,la,o,ca,j,rfl,?_,?_,?_,?_,?_,?_,?_,?_,Gx f,Gx i,⟨l,m,n⟩,⟨c1,c2,c3⟩⟩
 ·rw[Nat.zero_add,zs h.row _ oM rfl,CU]
 ·rw[Nat.zero_add,zs h.row _ oM rfl,CV]
 ·rw[Nat.zero_add,zs h.row _ oM rfl,CW]
 ·rw[Nat.zero_add,zs h.row _ oM rfl,CX]
 ·rw[Nat.zero_add,zs h.row _ oM rfl,CY]
 ·rw[Nat.zero_add,zs h.row _ oM rfl,Ad,d]
 ·rw[Nat.zero_add,zs h.row _ oM rfl,Ae,e]
 ·rw[Nat.zero_add,zs h.row _ oM rfl,CZ]
theorem qR.nil (w:World)(base:Nat)(S:Nat->qe)(L C:Nat->Value):qR w base True 0 S L C :=
 ⟨⟨rfl,.inl ⟨rfl,rfl⟩⟩,λi a=>by omega,λi a=>by omega,λi j a hj=>by omega⟩
end
section
def MV (A B C:Nat->Value)(k:Nat):List Value:=[A k,B k,C k]
def Dz (A B C:Nat->Value)(N:Nat):List Value:=(List.range (N*3)).map (qd 3 (MV A B C))
def Kb (N:Nat)(A:Nat->Value):Prop:=∀ i j,i<N->j<N->i≠j->∀ b,(A i).ownBlock=some b->(A j).ownBlock≠some b
structure qw (w:World)(base:Nat)(v:Value)(N:Nat)(S:Nat->zw)(A B C:Nat->Value):Prop where
 row:w.ownsRow base 145 3 v N (Dz A B C N)
 K:∀ i,i<N->w.ownsRow base 220 4 (A i) (S i).r (zH (S i).K (S i).r)
 I:∀ i,i<N->w.ownsRow base 228 4 (B i) (S i).m (zF (S i).I (S i).m)
 L:∀ i,i<N->w.ownsRow base 234 2 (C i) (S i).t (zL (S i).L (S i).t)
 Q:Kb N A/\Kb N B/\Kb N C
section
variable {w w' : World} {base : Nat} {v : Value} {N : Nat} {S : Nat -> zw} {A B C : Nat -> Value}
theorem qw.j0 (h:qw w base v N S A B C)(b:Below w w w'):qw w' base v N S A B C :=
 ⟨zm b h.row,λi a=>zm b (h.K i a),λi a=>zm b (h.I i a),λi a=>zm b (h.L i a),h.Q⟩
theorem qw.j7 {T:Nat->Prop}(h:qw w base v N S A B C)(e:zl w w' T)(d:∀ b,T b->∃ cs t,w.heap[b]?=some (.cells cs t (0,0))/\145≠t/\220≠t/\228≠t/\234≠t):qw w' base v N S A B C :=
 ⟨e.j1 h.row (λg c s=>by obtain⟨cs,t,h1,h2,_⟩:=d g s;exact zQ h.row h1 h2 g c rfl),λi a=>e.j1 (h.K i a) (λg c s=>by obtain⟨cs,t,h1,_,h2,_⟩:=d g s;exact zQ (h.K i a) h1 h2 g c rfl),
  λi a=>e.j1 (h.I i a) (λg c s=>by obtain⟨cs,t,h1,_,_,h2,_⟩:=d g s;exact zQ (h.I i a) h1 h2 g c rfl),λi a=>e.j1 (h.L i a) (λg c s=>by obtain⟨cs,t,h1,_,_,_,h2⟩:=d g s;exact zQ (h.L i a) h1 h2 g c rfl),h.Q⟩
theorem qw.lower {c d:Nat}(h:qw w c v N S A B C)(b:d<=c):qw w d v N S A B C :=
 ⟨zo h.row b,λi a=>zo (h.K i a) b,λi a=>zo (h.I i a) b,λi a=>zo (h.L i a) b,h.Q⟩
theorem qw.nil (w:World)(base:Nat)(S:Nat->zw)(A B C:Nat->Value):qw w base True 0 S A B C :=
 ⟨⟨rfl,.inl ⟨rfl,rfl⟩⟩,λi a=>by omega,λi a=>by omega,λi a=>by omega,λi j a=>by omega,λi j a=>by omega,λi j a=>by omega⟩
theorem qw.is (h:qw w base v N S A B C){k:Nat}(a:k<N):zw.Is w (MV A B C k) (S k):=by
 obtain⟨i,c1,b,m,p,s⟩:=zn (h.K k a);obtain⟨j,c2,c,n,q,t⟩:=zn (h.I k a);obtain⟨l,c3,d,o,r,u⟩:=zn (h.L k a);have e:=h.K k a;have f:=h.I k a;have g:=h.L k a;rw[b] at e;rw[c] at f;rw[d] at g;unfold maxLen at p q r;exact⟨i,c1,j,c2,l,c3,by unfold MV;rw[b,c,d],Cv e,⟨m,by omega,s⟩,Aj f,⟨n,by omega,t⟩,Al g,⟨o,by omega,u⟩⟩
theorem qw.at {a:Option Addr}{c:Nat}(h:qw w base (a,N,c) N S A B C):ZA w a N S:=by
 refine⟨_,λk b=>?_,λk b=>h.is b⟩
 obtain⟨g,rfl,_,_⟩:=qr h.row oM;refine⟨g,0,rfl,λj d=>?_⟩
 rw[Nat.zero_add,zs h.row _ oM rfl,zO 3 _ k j d]
theorem Kb.k3 {A:Nat->Value}{k lim:Nat}{a:Value}(h:Kb k A)(h1:∀ i,i<k->∀ b,(A i).ownBlock=some b->b<lim)(h2:∀ b,a.ownBlock=some b->lim<=b):Kb (k+1) (AP A k a):=λi j hi hj e b d c=>by
 by_cases ei:i=k
 ·subst ei
  rw[qg] at d;rw[zV _ _ _ _ (λh=>e h.symm)] at c
  have:=h1 j oM b c;have:=h2 b d
  omega
 ·rw[zV _ _ _ _ ei] at d
  by_cases ej:j=k
  ·subst ej
   rw[qg] at c;have:=h1 i oM b d;have:=h2 b c
   omega
  ·rw[zV _ _ _ _ ej] at c
   exact h i j oM oM e b d c
theorem qw.k3 {k:Nat}{p a b c:Value}{lim:Nat}(h:qw w base v k S A B C)(d:∀ i,i<k->(∀ g,(A i).ownBlock=some g->g<lim)/\(∀ g,(B i).ownBlock=some g->g<lim)/\(∀ g,(C i).ownBlock=some g->g<lim))
  (h1:w.ownsRow lim 220 4 a (S k).r (zH (S k).K (S k).r)) (h2:w.ownsRow lim 228 4 b (S k).m (zF (S k).I (S k).m)) (h3:w.ownsRow lim 234 2 c (S k).t (zL (S k).L (S k).t)) (j:base<=lim) (q:w.grownBy w' v.ownBlock)
  (l:w'.ownsRow base 145 3 p (k+1) (Dz A B C k++[a,b,c])):qw w' base p (k+1) S (AP A k a) (AP B k b) (AP C k c):=by
 have r:=qY q;have far:∀ {t sz n:Nat} {u} {xs},_->145≠t->w'.ownsRow base t sz u n xs:=λl s=>r.j1 l (λg m o=>zE h.row l s g o m)
 refine⟨?_,λi f=>?_,λi f=>?_,λi f=>?_,h.Q.1.k3 (λi f=>(d i f).1) (λb e=>(h1.lt b e).1),h.Q.2.1.k3 (λi f=>(d i f).2.1) (λb e=>(h2.lt b e).1),h.Q.2.2.k3 (λi f=>(d i f).2.2) (λb e=>(h3.lt b e).1)⟩
 ·have e:Dz _ _ _ _=Dz A B C k++_:=Gw 3 dC _ (MV (AP A k a) (AP B k b) (AP C k c)) k _ rfl (λi f=>by unfold MV;rw[zV _ _ _ _ oM,zV _ _ _ _ oM,zV _ _ _ _ oM]) (by unfold MV;rw[qg,qg,qg])
  rw[e];exact l
 ·by_cases e:i=k
  ·subst e;rw[qg];exact far (zo h1 j) dC
  ·rw[zV _ _ _ _ e];exact far (h.K i oM) dC
 ·by_cases e:i=k
  ·subst e;rw[qg];exact far (zo h2 j) dC
  ·rw[zV _ _ _ _ e];exact far (h.I i oM) dC
 ·by_cases e:i=k
  ·subst e;rw[qg];exact far (zo h3 j) dC
  ·rw[zV _ _ _ _ e];exact far (h.L i oM) dC
end
end
section
theorem NK (S:Nat->qe)(L C:Nat->Value)(k:Nat)(b a:Value) :
  (List.range ((k+1)*8)).map (qz S (AP L k b) (AP C k a))=(List.range (k*8)).map (qz S L C)++[int i64 (S k).S,.string (S k).U,.string (S k).dst,int i64 (S k).O,int i64 (S k).T,b,a,int i64 (S k).N]:=by
 rw[show(k+1)*8=k*8+1+1+1+1+1+1+1+1 by omega,List.range_succ,List.range_succ,List.range_succ,List.range_succ,List.range_succ,List.range_succ,List.range_succ,List.range_succ]
 simp only[List.map_append,List.map_cons,List.map_nil,List.append_assoc,List.cons_append,List.nil_append];rw[CU,CV,show k*8+1+1=k*8+2 by omega,CW,show k*8+2+1=k*8+3 by omega,CX,show k*8+3+1=k*8+4 by omega,CY,show k*8+4+1=k*8+5 by omega,Ad,show k*8+5+1=k*8+6 by omega,Ae,show k*8+6+1=k*8+7 by omega,CZ,qg,qg]
 congr 1
 refine List.map_congr_left λj c=>?_
 have d:=by simpa using c
 unfold qz;rw[zV _ _ _ _ (show j / 8≠k by omega),zV _ _ _ _ (show j / 8≠k by omega)]
theorem qR.k3 {w w':World}{base k:Nat}{v t:Value}{S:Nat->qe}{L C:Nat->Value}{s p:Value}{lim:Nat}(h:qR w base v k S L C)(m:∀ i,i<k->(∀ b,(L i).ownBlock=some b->b<lim)/\(∀ b,(C i).ownBlock=some b->b<lim))
  (r:w.ownsRow lim 223 2 s (S k).la.n (qu (S k).la)) (q:w.ownsRow lim 231 2 p (S k).M.n (qu (S k).M)) (l:base<=lim) (u:w.grownBy w' v.ownBlock)
  (y:w'.ownsRow base 140 8 t (k+1) ((List.range (k*8)).map (qz S L C)++[int i64 (S k).S,.string (S k).U,.string (S k).dst,int i64 (S k).O,int i64 (S k).T,s,p,int i64 (S k).N])) :
  qR w' base t (k+1) S (AP L k s) (AP C k p):=by
 have o:=qY u;refine⟨by rw[NK];exact y,λi x=>?_,λi x=>?_,λi j n hj=>?_⟩
 ·by_cases e:i=k
  ·subst e;rw[qg];exact o.j1 (zo r l) (λg d f=>zE h.row (zo r l) dC g f d)
  ·rw[zV _ _ _ _ e];exact o.j1 (h.la i oM) (λg d f=>zE h.row (h.la i oM) dC g f d)
 ·by_cases e:i=k
  ·subst e;rw[qg];exact o.j1 (zo q l) (λg d f=>zE h.row (zo q l) dC g f d)
  ·rw[zV _ _ _ _ e];exact o.j1 (h.M i oM) (λg d f=>zE h.row (h.M i oM) dC g f d)
 ·by_cases e:j=k
  ·subst e
   rw[qg,qg,zV _ _ _ _ oM,zV _ _ _ _ oM];refine⟨λb h1 h3=>?_,λb h1 h3=>?_⟩
   ·have a:=(m i n).1 b h1
    have c:=(r.lt b h3).1
    omega
   ·have a:=(m i n).2 b h1
    have c:=(q.lt b h3).1
    omega
  ·rw[zV _ _ _ _ e,zV _ _ _ _ e,zV _ _ _ _ oM,zV _ _ _ _ oM]
   exact h.apart i j n oM
theorem jx {w:World}{g t:Nat}{u0 u1 u2:Value}(h:w.heap[g]?=some (.cells #[u0,u1,u2] t (0,0)))(v:Value):(w.setCell (g,0) v).heap[g]?=some (.cells #[v,u1,u2] t (0,0)):=by simpa using zk h 0 v
theorem jy {w:World}{g t:Nat}{u0 u1 u2:Value}(h:w.heap[g]?=some (.cells #[u0,u1,u2] t (0,0)))(v:Value):(w.setCell (g,1) v).heap[g]?=some (.cells #[u0,v,u2] t (0,0)):=by simpa using zk h 1 v
theorem Tq {w:World}{g t:Nat}{u0 u1 u2:Value}(h:w.heap[g]?=some (.cells #[u0,u1,u2] t (0,0)))(v:Value):(w.setCell (g,2) v).heap[g]?=some (.cells #[u0,u1,v] t (0,0)):=by simpa using zk h 2 v
theorem zC {w:World}{base e size n:Nat}{v:Value}{f:List Value}(h:w.ownsRow base e size v n f):∀ g,v.ownBlock=some g->∃ cs,w.heap[g]?=some (.cells cs e (0,0)):=λg b=>by
 rcases h.2 with⟨rfl,_⟩|⟨g',c,a,rfl,_,d,_⟩
 ·cases b
 ·simp[Value.ownBlock] at b
  subst b;exact⟨a,d⟩
theorem qR.j7 {w w':World}{base:Nat}{v:Value}{N:Nat}{S:Nat->qe}{L C:Nat->Value}{T:Nat->Prop}(h:qR w base v N S L C)(e:zl w w' T)(d:∀ b,T b->∃ cs t,w.heap[b]?=some (.cells cs t (0,0))/\140≠t/\223≠t/\231≠t):qR w' base v N S L C :=
 ⟨e.j1 h.row (λg a s=>by obtain⟨cs,t,h1,h2,_⟩:=d g s;exact zQ h.row h1 h2 g a rfl),λi c=>e.j1 (h.la i c) (λg a s=>by obtain⟨cs,t,h1,_,h2,_⟩:=d g s;exact zQ (h.la i c) h1 h2 g a rfl),
  λi c=>e.j1 (h.M i c) (λg a s=>by obtain⟨cs,t,h1,_,_,h2⟩:=d g s;exact zQ (h.M i c) h1 h2 g a rfl),h.apart⟩
structure zz (w:World)(base:Nat)(v1 v2 v3:Value)(a b c:Nat)(x:zY)(L C A B D E:Nat->Value):Prop where
 G:qR w base v1 a x.G L C
 F:qw w base v2 b x.F A B D
 u:Zq w base v3 c x.u E
section
variable {w w' : World} {base : Nat} {v1 v2 v3 : Value} {n1 n2 n3 : Nat} {x : zY} {L C A B D E : Nat -> Value}
theorem zz.j0 (h:zz w base v1 v2 v3 n1 n2 n3 x L C A B D E)(a:Below w w w'):zz w' base v1 v2 v3 n1 n2 n3 x L C A B D E:=⟨h.G.j0 a,h.F.j0 a,h.u.j0 a⟩
theorem zz.lower {b c:Nat}(h:zz w b v1 v2 v3 n1 n2 n3 x L C A B D E)(a:c<=b):zz w c v1 v2 v3 n1 n2 n3 x L C A B D E:=⟨h.G.base a,h.F.lower a,h.u.lower a⟩
theorem zz.box {g t:Nat}{cs:Array Value}(h:zz w base v1 v2 v3 n1 n2 n3 x L C A B D E)(d:zl w w' (λb=>b=g))(c:w.heap[g]?=some (.cells cs t (0,0)))(a:140≠t/\223≠t/\231≠t/\145≠t/\220≠t/\228≠t/\234≠t/\150≠t/\3≠t):zz w' base v1 v2 v3 n1 n2 n3 x L C A B D E :=
 ⟨h.G.j7 d (λb e=>by have e:=e;subst e;exact⟨cs,t,c,a.1,a.2.1,a.2.2.1⟩),h.F.j7 d (λb e=>by have e:=e;subst e;exact⟨cs,t,c,a.2.2.2.1,a.2.2.2.2.1,a.2.2.2.2.2.1,a.2.2.2.2.2.2.1⟩),h.u.j7 d (λb e=>by have e:=e;subst e;exact⟨cs,t,c,a.2.2.2.2.2.2.2.1,a.2.2.2.2.2.2.2.2⟩)⟩
theorem zz.load {m a b c:Value}{k lim:Nat}(h:zz w base v1 v2 v3 n1 k n3 x L C A B D E)(d:∀ i,i<k->(∀ g,(A i).ownBlock=some g->g<lim)/\(∀ g,(B i).ownBlock=some g->g<lim)/\(∀ g,(D i).ownBlock=some g->g<lim))
  (h1:w.ownsRow lim 220 4 a (x.F k).r (zH (x.F k).K (x.F k).r)) (h2:w.ownsRow lim 228 4 b (x.F k).m (zF (x.F k).I (x.F k).m)) (h3:w.ownsRow lim 234 2 c (x.F k).t (zL (x.F k).L (x.F k).t)) (j:base<=lim) (l:w.grownBy w' v2.ownBlock)
  (n:w'.ownsRow base 145 3 m (k+1) (Dz A B D k++[a,b,c])):zz w' base v1 m v3 n1 (k+1) n3 x L C (AP A k a) (AP B k b) (AP D k c) E :=
 ⟨h.G.j7 (qY l) (λg e=>by obtain⟨cs,f⟩:=zC h.F.row g e;exact⟨cs,_,f,by decide,by decide,by decide⟩),h.F.k3 d h1 h2 h3 j l n,h.u.j7 (qY l) (λg e=>by obtain⟨cs,f⟩:=zC h.F.row g e;exact⟨cs,_,f,by decide,by decide⟩)⟩
theorem zz.book {l j:Value}{k lim:Nat}(h:zz w base v1 v2 v3 n1 n2 k x L C A B D E)(a:∀ i,i<k->∀ b,(E i).ownBlock=some b->b<lim)
  (m:w.ownsRow lim 3 1 j (x.u k).c (qp (x.u k).J (x.u k).c)) (d:base<=lim) (f:w.grownBy w' v3.ownBlock)
  (n:w'.ownsRow base 150 13 l (k+1) (AQ x.u E k++AM x.u (AP E k j) k)):zz w' base v1 v2 l n1 n2 (k+1) x L C A B D (AP E k j) :=
 ⟨h.G.j7 (qY f) (λg e=>by obtain⟨cs,c⟩:=zC h.u.row g e;exact⟨cs,_,c,by decide,by decide,by decide⟩),h.F.j7 (qY f) (λg e=>by obtain⟨cs,c⟩:=zC h.u.row g e;exact⟨cs,_,c,by decide,by decide,by decide,by decide⟩),h.u.k3 a m d f n⟩
theorem zz.is {a b c:Option Addr}{c1 c2 c3:Nat}(h:zz w base (a,x.i,c1) (b,x.l,c2) (c,x.g,c3) x.i x.l x.g x L C A B D E):zY.Is w [(a,x.i,c1),(b,x.l,c2),(c,x.g,c3)] x:=by
 obtain⟨_,_,d,g,k,n⟩:=zn h.G.row;obtain⟨_,_,e,i,l,o⟩:=zn h.F.row;obtain⟨_,_,f,j,m,p⟩:=zn h.u.row;simp only[Value.slice.injEq] at d e f;obtain⟨rfl,_,rfl⟩:=d;obtain⟨rfl,_,rfl⟩:=e;obtain⟨rfl,_,rfl⟩:=f;unfold maxLen at k l m;exact⟨a,c1,b,c2,c,c3,rfl,h.G.at,⟨g,by omega,n⟩,h.F.at,⟨i,by omega,o⟩,h.u.at,⟨j,by omega,p⟩⟩
end
end
def Qh (F:Nat->Int)(n:Nat)(x:Int):Prop:=∃ j,j<n/\F j=x
def Qb (F:Nat->Int)(x:Int):Nat->Nat
 |0=>0
 |n+1=>if Qb F x n<n then Qb F x n else if F n=x then n else n+1
theorem Ts (F:Nat->Int)(x:Int)(n:Nat):Qb F x n<=n:=by
 induction n with
 |zero=>exact Jr _
 |succ n ih=>unfold Qb;split <;> (try split) <;> omega
theorem Im (F:Nat->Int)(x:Int)(n:Nat):∀ j,j<Qb F x n->F j≠x:=by
 induction n with
 |zero=>intro j a;unfold Qb at a;omega
 |succ n ih =>
  intro j a;unfold Qb at a;have hl:=Ts F x n
  by_cases h1:Qb F x n<n
  ·rw[Jf h1] at a;exact ih j a
  ·rw[Je h1] at a
   have he:Qb F x n=n:=oM
   by_cases h2:F n=x
   ·rw[Jf h2] at a;exact ih j oM
   ·rw[Je h2] at a
    by_cases e:j=n
    ·subst e;exact h2
    ·exact ih j oM
theorem DA (F:Nat->Int)(x:Int)(n:Nat)(h:Qb F x n<n):F (Qb F x n)=x:=by
 induction n with
 |zero=>omega
 |succ n ih =>
  unfold Qb at h ⊢
  by_cases h1:Qb F x n<n
  ·rw[Jf h1];exact ih h1
  ·rw[Je h1] at h ⊢
   by_cases h2:F n=x
   ·rw[Jf h2];exact h2
   ·rw[Je h2] at h;omega
theorem Fv {r:Nat}(hr:r<n)(b:F r=x)(a:∀ j,j<r->F j≠x):Qb F x n=r:=by
 have h1:=Im F x n
 by_cases c:Qb F x n<r
 ·exact absurd (DA F x n oM) (a _ c)
 ·by_cases c2:r<Qb F x n
  ·exact absurd b (h1 r c2)
  ·omega
theorem DB (F:Nat->Int)(n:Nat)(x:Int):Qh F n x↔Qb F x n<n:=by
 constructor
 ·rintro⟨j,hj,e⟩
  by_cases c:Qb F x n<n
  ·exact c
  ·have:=Ts F x n
   exact absurd e (Im F x n j oM)
 ·intro h
  exact⟨_,h,DA F x n h⟩
theorem DC (h:∀ j,j<n->F j≠x):¬ Qh F n x:=λ⟨j,hj,e⟩=>h j hj e
def Zt (F:Nat->Int)(x:Int)(n:Nat):Int:=if Qb F x n<n then (Qb F x n:Int) else -1
theorem QK (F:Nat->Int)(x:Int)(n:Nat):0<=Zt F x n↔Qh F n x:=by
 rw[DB];unfold Zt
 split <;> omega
theorem Cf (h:¬ Qh F n x):Zt F x n=-1:=Je (λc=>h ((DB F n x).2 c))
section
def Zl (S:Nat->zU)(j:Nat):Int:=(S j).e
def QA (S:Nat->zU)(k:Nat):Nat->Int
 |0=>0
 |i+1=>QA S k i+(if (S i).H=(k:Int) then (S i).z else 0)
def qZ (p:zv)(S:Nat->zU)(i:Nat)(k:Nat):Int:=p.B k - QA S k i
theorem Kk (p:zv)(S:Nat->zU)(k:Nat):qZ p S 0 k=p.B k:=by unfold qZ QA;omega
theorem DV (p:zv)(S:Nat->zU)(i k:Nat)(h:(S i).H=(k:Int)):qZ p S (i+1) k=qZ p S i k - (S i).z:=by
 unfold qZ;rw[QA,Jf h];omega
theorem Gy (p:zv)(S:Nat->zU)(i k:Nat)(h:(S i).H≠(k:Int)):qZ p S (i+1) k=qZ p S i k:=by
 unfold qZ;rw[QA,Je h];omega
theorem NL (S:Nat->zU)(k i:Nat)(h:∀ j,j<i->In (S j).z 1 4):0<=QA S k i/\QA S k i<=4*i:=by
 induction i with
 |zero=>exact⟨Int.le_refl _,by unfold QA;omega⟩
 |succ i ih =>
  have:=ih (λj hj=>h j oM)
  have a:=h i oM;unfold In at a;unfold QA
  split <;> omega
theorem Ge (p:zv)(S:Nat->zU)(k i n:Nat)(a:i<=n)(h:∀ j,j<n->In (S j).z 1 4):qZ p S n k<=qZ p S i k:=by
 induction n with
 |zero=>rw[show i=0 by omega];exact Int.le_refl _
 |succ n ih =>
  by_cases e:i=n+1
  ·rw[e];exact Int.le_refl _
  ·have:=ih oM (λj hj=>h j oM)
   have b:=h n oM;unfold In at b
   by_cases c:(S n).H=(k:Int)
   ·rw[DV p S n k c];omega
   ·rw[Gy p S n k c];exact this
def Fc (p:zv):Prop:=Bk p 6 1 3 1 4
def fu (p:zv)(S:Nat->zU)(i:Nat):Prop:=In (S i).e 1 9999/\¬ Qh (Zl S) i (S i).e/\In (S i).H 0 ((p.n:Int) - 1)/\In (S i).z 1 4/\((S i).h=true->(S i).z=p.B (S i).H.toNat)
def kd (S:Nat->zU)(i j:Nat):Prop:=(S j).H=(S i).H->(S j).h=false/\(S i).h=false
def px (p:zv)(S:Nat->zU)(i:Nat):Prop:=fu p S i/\∀ j,j<i->kd S i j
def QF (p:zv)(n:Nat)(S:Nat->zU):Prop:=Fc p/\n<=60/\(∀ i,i<n->px p S i)/\∀ k,k<p.n->0<=qZ p S n k
theorem QF.manys {p:zv}{S:Nat->zU}(h:QF p n S):∀ j,j<n->In (S j).z 1 4:=λj a=>(h.2.2.1 j a).1.2.2.2.1
theorem Eo {p:zv}{S:Nat->zU}(c:Fc p)(hn:n<=60)(e:∀ j,j<n->In (S j).z 1 4)(d:k<p.n):-240<=qZ p S n k/\qZ p S n k<=4:=by
 have a:=(c.2 k d).2;have b:=NL S k n e;unfold In at a;unfold qZ
 omega
def ZC (m:Nat)(P:Nat->Prop)(k:Nat):Prop:=k<m/\P k/\∀ j,j<k->¬ P j
theorem Io {P:Nat->Prop}(h1:ZC m P k)(h2:ZC m P j):k=j:=by
 by_cases c:k<j
 ·exact absurd h1.2.1 (h2.2.2 k c)
 ·by_cases c2:j<k
  ·exact absurd h2.2.1 (h1.2.2 j c2)
  ·omega
open Classical in
/-- The first, where G holds. -/
noncomputable def Fd (G:Prop)(m:Nat)(P:Nat->Prop):Option Nat:=if h:G/\∃ k,ZC m P k then some h.2.choose else none
theorem Ep {G:Prop}{P:Nat->Prop}(b:G)(h:ZC m P k):Fd G m P=some k:=by
 have a:G/\∃ k,_:=⟨b,k,h⟩;unfold Fd;rw[dif_pos a,Io a.2.choose_spec h]
theorem MW {G:Prop}{P:Nat->Prop}(h:∀ k,¬ (G/\ZC m P k)):Fd G m P=none:=by
 unfold Fd;rw[dif_neg (λ⟨g,k,hk⟩=>h k ⟨g,hk⟩)]
theorem Ip {G:Prop}{P:Nat->Prop}(h:Fd G m P=some k):G/\ZC m P k:=by
 unfold Fd at h
 split at h
 ·rename_i he
  have:=he.2.choose_spec;simp only[Option.some.injEq] at h;rw[h] at this;exact⟨he.1,this⟩
 ·cases h
def RV (p:zv)(n:Nat)(S:Nat->zU)(x:Int):Prop:=QF p n S/\n≠60/\¬ Qh (Zl S) n x/\In x 1 9999
def NM (p:zv)(n:Nat)(S:Nat->zU)(x cl q:Int):Prop:=RV p n S x/\In cl 1 3/\In q 1 20
def BL (p:zv)(n:Nat)(S:Nat->zU)(cl q:Int)(k:Nat):Prop:=p.A k=cl/\qZ p S n k=p.B k/\(q<=p.B k∨¬ ∃ j,j<p.n/\p.A j=cl/\q<=p.B j)
noncomputable def DD (p:zv)(n:Nat)(S:Nat->zU)(x cl q:Int):Option Nat:=Fd (NM p n S x cl q) p.n (BL p n S cl q)
noncomputable def Gz (p:zv)(n:Nat)(S:Nat->zU)(x cl q:Int):Bool:=(DD p n S x cl q).isSome
noncomputable def Cz (p:zv)(n:Nat)(S:Nat->zU)(x cl q:Int):Int:=((DD p n S x cl q).getD 0:Nat)
noncomputable def DW (p:zv)(n:Nat)(S:Nat->zU)(x cl q:Int):Nat:=if (DD p n S x cl q).isSome then n+1 else 0
noncomputable def Er (p:zv)(n:Nat)(S:Nat->zU)(x cl q:Int):Nat->zU:=Zu S n (λ_=>⟨x,Cz p n S x cl q,p.B ((DD p n S x cl q).getD 0),true⟩)
def GA (w':World)(base t:Nat)(p:zv)(n:Nat)(S:Nat->zU)(x cl q:Int)(e:Ending):Prop :=
 ∃ v,e=.returned (.tuple #[v,(Cz p n S x cl q),.bool (Gz p n S x cl q)])/\w'.ownsRow base t 4 v (DW p n S x cl q) (zF (Er p n S x cl q) (DW p n S x cl q))
theorem Iq {base:Nat}{p:zv}{S:Nat->zU}(h:∀ k,¬ (NM p n S x cl q/\ZC p.n (BL p n S cl q) k)):GA w base t p n S x cl q (.returned (.tuple #[True,(),.bool false])):=by
 have e:DD p n S x cl q=none:=MW h;refine⟨.slice none 0 0,?_,?_⟩
 ·unfold Cz Gz;rw[e];rfl
 ·unfold DW;rw[e];exact⟨rfl,.inl ⟨rfl,rfl⟩⟩
theorem NN {base:Nat}{p:zv}{S:Nat->zU}(a:NM p n S x cl q)(h:ZC p.n (BL p n S cl q) k)
  (b:w.ownsRow base t 4 v (n+1) (zF (Zu S n (λ_=>⟨x,(k:Int),p.B k,true⟩)) (n+1))):GA w base t p n S x cl q (.returned (.tuple #[v,(k:Int),.bool true])):=by
 have e:DD p n S x cl q=_:=Ep a h;refine⟨v,?_,?_⟩
 ·unfold Cz Gz;rw[e];rfl
 ·unfold Er Cz DW;rw[e];exact b
def NP (p:zv)(n:Nat)(S:Nat->zU)(x cl q:Int):Prop:=RV p n S x/\In cl 1 3/\In q 1 4
def BM (p:zv)(n:Nat)(S:Nat->zU)(cl q:Int)(k:Nat):Prop:=p.A k=cl/\q<=qZ p S n k
noncomputable def Es (p:zv)(n:Nat)(S:Nat->zU)(x cl q:Int):Option Nat:=Fd (NP p n S x cl q) p.n (BM p n S cl q)
noncomputable def GB (p:zv)(n:Nat)(S:Nat->zU)(x cl q:Int):Bool:=(Es p n S x cl q).isSome
noncomputable def CA (p:zv)(n:Nat)(S:Nat->zU)(x cl q:Int):Int:=((Es p n S x cl q).getD 0:Nat)
noncomputable def DX (p:zv)(n:Nat)(S:Nat->zU)(x cl q:Int):Nat:=if (Es p n S x cl q).isSome then n+1 else 0
noncomputable def Et (p:zv)(n:Nat)(S:Nat->zU)(x cl q:Int):Nat->zU:=Zu S n (λ_=>⟨x,CA p n S x cl q,q,false⟩)
def GC (w':World)(base t:Nat)(p:zv)(n:Nat)(S:Nat->zU)(x cl q:Int)(e:Ending):Prop :=
 ∃ v,e=.returned (.tuple #[v,(CA p n S x cl q),.bool (GB p n S x cl q)])/\w'.ownsRow base t 4 v (DX p n S x cl q) (zF (Et p n S x cl q) (DX p n S x cl q))
theorem Px {base:Nat}{p:zv}{S:Nat->zU}(h:∀ k,¬ (NP p n S x cl q/\ZC p.n (BM p n S cl q) k)):GC w base t p n S x cl q (.returned (.tuple #[True,(),.bool false])):=by
 have e:Es p n S x cl q=none:=MW h;refine⟨.slice none 0 0,?_,?_⟩
 ·unfold CA GB;rw[e];rfl
 ·unfold DX;rw[e];exact⟨rfl,.inl ⟨rfl,rfl⟩⟩
theorem NQ {base:Nat}{p:zv}{S:Nat->zU}(a:NP p n S x cl q)(h:ZC p.n (BM p n S cl q) k)
  (b:w.ownsRow base t 4 v (n+1) (zF (Zu S n (λ_=>⟨x,(k:Int),q,false⟩)) (n+1))):GC w base t p n S x cl q (.returned (.tuple #[v,(k:Int),.bool true])):=by
 have e:Es p n S x cl q=_:=Ep a h;refine⟨v,?_,?_⟩
 ·unfold CA GB;rw[e];rfl
 ·unfold Et CA DX;rw[e];exact b
end
def AH (k:Int)(s:ByteArray):Prop:=if k=2∨k=3∨k=7 then Z7 s else s.size=0
instance (k:Int) (s:ByteArray):Decidable (AH k s):=by unfold AH;exact inferInstance
def Bv (k n:Int):Prop:=if In k 4 8 then In n 1 30 else n=0
instance (k n:Int):Decidable (Bv k n):=by unfold Bv;exact inferInstance
def zM (k:Int):Prop:=k=1∨k=2∨k=3∨k=5
instance (k:Int):Decidable (zM k):=by unfold zM;exact inferInstance
def Zj (k:Int)(n:Nat):Prop:=if zM k then 1<=n/\n<=3 else if k=9 then n=1 else n=0
instance (k:Int) (n:Nat):Decidable (Zj k n):=by unfold Zj;exact inferInstance
def Fy (p:ZP):Prop:=p.v=0/\p.f=0/\p.j=0/\p.w=0/\p.h=false/\p.x=0
instance (p:ZP):Decidable (Fy p):=by unfold Fy;exact inferInstance
def Zr (k:Int)(p:ZP):Prop:=if zM k then Zc p else Fy p
instance (k:Int) (p:ZP):Decidable (Zr k p):=by unfold Zr;exact inferInstance
def AT (k u:Int):Prop:=u=0∨(k=2/\In u 0 10000)
instance (k u:Int):Decidable (AT k u):=by unfold AT;exact inferInstance
def DZ (k u:Int):Prop:=u=0∨((k=8∨k=6)/\In u 0 10000)
instance (k u:Int):Decidable (DZ k u):=by unfold DZ;exact inferInstance
def qD.p (o:qD):ZP:=⟨o.v,o.f,o.j,o.w,o.h,o.x⟩
def QE (o:qD):Prop:=In o.d 1 9/\AH o.d o.j1/\Bv o.d o.k/\Zj o.d o.c/\Zr o.d o.p/\AT o.d o.y/\DZ o.d o.D
instance (o:qD):Decidable (QE o):=by unfold QE;exact inferInstance
theorem RY {k:Int}{own:ByteArray}{name:Int}{lgn:Nat}{lg:Nat->Int}{unt now:Int}(a:In k 1 9) :
  decide (QE ⟨k,own,name,lgn,lg,pe,len,hei,cl,all,be,unt,now⟩)=(decide (AH k own) && decide (Bv k name) && decide (Zj k lgn) && decide (Zr k ⟨pe,len,hei,cl,all,be⟩) && decide (AT k unt) && decide (DZ k now)):=by
 rw[Bool.eq_iff_iff];simp only[Bool.and_eq_true,decide_eq_true_eq];unfold QE qD.p;exact⟨λh=>⟨⟨⟨⟨⟨h.2.1,h.2.2.1⟩,h.2.2.2.1⟩,h.2.2.2.2.1⟩,h.2.2.2.2.2.1⟩,h.2.2.2.2.2.2⟩,λh=>⟨a,h.1.1.1.1.1,h.1.1.1.1.2,h.1.1.1.2,h.1.1.2,h.1.2,h.2⟩⟩
theorem Iv (own:ByteArray){k:Int}(a:¬ (k=2∨k=3∨k=7)):decide (AH k own)=own.toList.isEmpty:=by
 rw[Bool.eq_iff_iff];rw[decide_eq_true_eq];unfold AH;rw[Je a,List.isEmpty_iff,ByteArray.toList_eq];obtain⟨⟨l⟩⟩:=own
 show l.length=0↔l=[]
 exact List.length_eq_zero_iff
theorem MX (n:Int){k:Int}(a:¬ In k 4 8):decide (Bv k n)=(n == 0):=by
 rw[Bool.eq_iff_iff];rw[decide_eq_true_eq];unfold Bv;rw[Je a,beq_iff_eq]
theorem PC (n:Nat):((n:Int) == 0)=decide (n=0):=by
 rw[Bool.eq_iff_iff,beq_iff_eq,decide_eq_true_eq];omega
theorem kf (n:Nat):((n:Int) == 1)=decide (n=1):=by
 rw[Bool.eq_iff_iff,beq_iff_eq,decide_eq_true_eq];omega
theorem KX {k:Int}{p:ZP}{q:Bool}(a:zM k)(h:q=true↔Zc p):decide (Zr k p)=q:=by
 rw[Bool.eq_iff_iff,decide_eq_true_eq,h];unfold Zr;rw[Jf a]
def PZ (pe len hei cl:Int)(all:Bool)(be:Int):Bool:=decide (Fy ⟨pe,len,hei,cl,all,be⟩)
theorem MY (h:¬ Fy ⟨pe,len,hei,cl,all,be⟩):PZ pe len hei cl all be=false:=Jc h
theorem KY {k:Int}(a:¬ zM k):PZ pe len hei cl all be=decide (Zr k ⟨pe,len,hei,cl,all,be⟩):=by
 unfold PZ;rw[Bool.eq_iff_iff,decide_eq_true_eq,decide_eq_true_eq];unfold Zr;rw[Je a]
theorem fx (x lo a:Int)(w:World)(h1:lo<=x)(h2:x<=a) :
  Calls prog 148 #[x,lo,a] w λe w'=>e=.returned (.bool true)/\w'=w:=by
 have e1:decide (lo<=x)=true:=by simpa using h1
 have e2:decide (x<=a)=true:=by simpa using h2
 go_enter func148,ntmps148;go_wp2;go_ret;exact⟨rfl,rfl⟩
theorem fy (x lo a:Int)(w:World)(h1:x<lo) :
  Calls prog 148 #[x,lo,a] w λe w'=>e=.returned (.bool false)/\w'=w:=by
 have e1:decide (lo<=x)=false:=by simpa using h1
 go_enter func148,ntmps148;go_wp2;go_ret;exact⟨rfl,rfl⟩
theorem TT (x lo a:Int)(w:World)(h1:lo<=x)(h2:a<x) :
  Calls prog 148 #[x,lo,a] w λe w'=>e=.returned (.bool false)/\w'=w:=by
 have e1:decide (lo<=x)=true:=by simpa using h1
 have e2:decide (x<=a)=false:=by simpa using h2
 go_enter func148,ntmps148;go_wp2;go_ret;exact⟨rfl,rfl⟩
theorem kg (x lo a:Int)(w:World)(h:¬ (lo<=x/\x<=a)) :
  Calls prog 148 #[x,lo,a] w λe w'=>e=.returned (.bool false)/\w'=w:=by
 by_cases h1:lo<=x
 ·exact TT x lo a w h1 oM
 ·exact fy x lo a w oM
theorem zt (x lo a:Int)(w:World) :
  Calls prog 148 #[int i64 x,int i64 lo,int i64 a] w λe w'=>e=.returned (.bool (decide (In x lo a)))/\w'=w:=by
 by_cases h:In x lo a
 ·rw[Jd h];exact fx x lo a w h.1 h.2
 ·rw[Jc h];exact kg x lo a w h
theorem Zb (x y:Int)(w:World) :
  Calls prog 224 #[x,y] w λe w'=>e=.returned (.bool (decide (Ce x y)))/\w'=w:=by
 obtain⟨c,g⟩:=nM (decide (Ce x y));rw[← g];have f:=hI g;clear g
 by_cases h1:In x 1 2000
 ·have i:=Jd h1
  have b:=hI h1;clear h1
  by_cases h2:In y 1 500
  ·have j:=Jd h2
   have d:=hI h2;clear h2;go_enter func224,ntmps224;go_wp2_with (first|(go_at_call 148;refine bM (zt _ _ _ _) λw' a=>?_;have a:=a.symm;subst a))
   go_ret;exact⟨by rw[f.out,Jd ⟨b.out,d.out⟩];rfl,rfl⟩
  ·have j:=Jc h2
   have d:=hI h2;clear h2;go_enter func224,ntmps224;go_wp2_with (first|(go_at_call 148;refine bM (zt _ _ _ _) λw' a=>?_;have a:=a.symm;subst a))
   go_ret;exact⟨by rw[f.out,Jc (λh=>d.out h.2)];rfl,rfl⟩
 ·have i:=Jc h1
  have b:=hI h1;clear h1;go_enter func224,ntmps224;go_wp2_with (first|(go_at_call 148;refine bM (zt _ _ _ _) λw' a=>?_;have a:=a.symm;subst a))
  go_ret;exact⟨by rw[f.out,Jc (λh=>b.out h.1)];rfl,rfl⟩
theorem FP (pe len hei cl:Int)(all:Bool)(be:Int)(w:World) :
  Calls prog 158 #[.agg #[pe,len,hei,cl,all,be]] w λe w'=>qH (Zc ⟨pe,len,hei,cl,all,be⟩) e/\Below w w w':=by
 by_cases h1:In pe 1 20
 ·have p:=Jd h1
  have c:=hI h1;clear h1
  by_cases h2:len=0
  ·subst h2
   have m:Hid (¬ Ce 0 hei):=λh=>by have:=h.1;unfold In at this;omega
   have n:=Jc m
   by_cases h3:hei=0
   ·subst h3
    by_cases k0:cl=0
    ·subst k0
     cases all with
     |true =>
      go_enter func158,ntmps158;go_wp2_with (first|(go_at_call 148;refine bM (zt _ _ _ _) λw' a=>?_;have a:=a.symm;subst a)|(go_at_call 224;refine bM (Zb _ _ _) λw' a=>?_;have a:=a.symm;subst a))
      go_ret;exact⟨zh (λh=>by rcases h.2.2 with h|h;cases h.2.1;have h9:In (0:Int) 1 3:=h.1;unfold In at h9;omega),zd bZ _⟩
     |false =>
      by_cases k1:be=0
      ·subst k1
       go_enter func158,ntmps158;go_wp2_with (first|(go_at_call 148;refine bM (zt _ _ _ _) λw' a=>?_;have a:=a.symm;subst a)|(go_at_call 224;refine bM (Zb _ _ _) λw' a=>?_;have a:=a.symm;subst a))
       go_ret;exact⟨zN ⟨c,.inl ⟨rfl,rfl⟩,.inl ⟨rfl,rfl,rfl⟩⟩,zd bZ _⟩
      ·have j:(be == 0)=false:=by simpa using k1
       have g:=hI k1;clear k1;go_enter func158,ntmps158;go_wp2_with (first|(go_at_call 148;refine bM (zt _ _ _ _) λw' a=>?_;have a:=a.symm;subst a)|(go_at_call 224;refine bM (Zb _ _ _) λw' a=>?_;have a:=a.symm;subst a))
       go_ret;exact⟨zh (λh=>by rcases h.2.2 with h|h;exact g h.2.2;have h9:In (0:Int) 1 3:=h.1;unfold In at h9;omega),zd bZ _⟩
    ·have r:(cl == 0)=false:=by simpa using k0
     have f:=hI k0;clear k0
     by_cases k2:In cl 1 3
     ·have k:=Jd k2
      have b:=hI k2;clear k2
      cases all with
      |true =>
       by_cases k1:be=0
       ·subst k1
        go_enter func158,ntmps158;go_wp2_with (first|(go_at_call 148;refine bM (zt _ _ _ _) λw' a=>?_;have a:=a.symm;subst a)|(go_at_call 224;refine bM (Zb _ _ _) λw' a=>?_;have a:=a.symm;subst a))
        go_ret;exact⟨zN ⟨c,.inl ⟨rfl,rfl⟩,.inr ⟨b,.inl ⟨rfl,rfl⟩⟩⟩,zd bZ _⟩
       ·have j:(be == 0)=false:=by simpa using k1
        have g:=hI k1;clear k1;go_enter func158,ntmps158;go_wp2_with (first|(go_at_call 148;refine bM (zt _ _ _ _) λw' a=>?_;have a:=a.symm;subst a)|(go_at_call 224;refine bM (Zb _ _ _) λw' a=>?_;have a:=a.symm;subst a))
        go_ret;exact⟨zh (λh=>by rcases h.2.2 with h|h;exact f h.1;rcases h.2 with h|h;exact g h.2;cases h.1),zd bZ _⟩
      |false =>
       by_cases k3:In be 1 4
       ·have l:=Jd k3
        have i:=hI k3;clear k3;go_enter func158,ntmps158;go_wp2_with (first|(go_at_call 148;refine bM (zt _ _ _ _) λw' a=>?_;have a:=a.symm;subst a)|(go_at_call 224;refine bM (Zb _ _ _) λw' a=>?_;have a:=a.symm;subst a))
        go_ret;exact⟨zN ⟨c,.inl ⟨rfl,rfl⟩,.inr ⟨b,.inr ⟨rfl,i⟩⟩⟩,zd bZ _⟩
       ·have l:=Jc k3
        have i:=hI k3;clear k3;go_enter func158,ntmps158;go_wp2_with (first|(go_at_call 148;refine bM (zt _ _ _ _) λw' a=>?_;have a:=a.symm;subst a)|(go_at_call 224;refine bM (Zb _ _ _) λw' a=>?_;have a:=a.symm;subst a))
        go_ret;exact⟨zh (λh=>by rcases h.2.2 with h|h;exact f h.1;rcases h.2 with h|h;cases h.1;exact i h.2),zd bZ _⟩
     ·have k:=Jc k2
      have b:=hI k2;clear k2;go_enter func158,ntmps158;go_wp2_with (first|(go_at_call 148;refine bM (zt _ _ _ _) λw' a=>?_;have a:=a.symm;subst a)|(go_at_call 224;refine bM (Zb _ _ _) λw' a=>?_;have a:=a.symm;subst a))
      go_ret;exact⟨zh (λh=>by rcases h.2.2 with h|h;exact f h.1;exact b h.1),zd bZ _⟩
   ·have q:(hei == 0)=false:=by simpa using h3
    have d:=hI h3;clear h3;go_enter func158,ntmps158;go_wp2_with (first|(go_at_call 148;refine bM (zt _ _ _ _) λw' a=>?_;have a:=a.symm;subst a)|(go_at_call 224;refine bM (Zb _ _ _) λw' a=>?_;have a:=a.symm;subst a))
    go_ret;exact⟨zh (λh=>by rcases h.2.1 with h|h;exact d h.2;exact m h),zd bZ _⟩
  ·have q:(len == 0)=false:=by simpa using h2
   have o:=hI h2;clear h2
   by_cases h3:Ce len hei
   ·have n:=Jd h3
    have d:=hI h3;clear h3
    by_cases k0:cl=0
    ·subst k0
     cases all with
     |true =>
      go_enter func158,ntmps158;go_wp2_with (first|(go_at_call 148;refine bM (zt _ _ _ _) λw' a=>?_;have a:=a.symm;subst a)|(go_at_call 224;refine bM (Zb _ _ _) λw' a=>?_;have a:=a.symm;subst a))
      go_ret;exact⟨zh (λh=>by rcases h.2.2 with h|h;cases h.2.1;have h9:In (0:Int) 1 3:=h.1;unfold In at h9;omega),zd bZ _⟩
     |false =>
      by_cases k1:be=0
      ·subst k1
       go_enter func158,ntmps158;go_wp2_with (first|(go_at_call 148;refine bM (zt _ _ _ _) λw' a=>?_;have a:=a.symm;subst a)|(go_at_call 224;refine bM (Zb _ _ _) λw' a=>?_;have a:=a.symm;subst a))
       go_ret;exact⟨zN ⟨c,.inr d,.inl ⟨rfl,rfl,rfl⟩⟩,zd bZ _⟩
      ·have j:(be == 0)=false:=by simpa using k1
       have g:=hI k1;clear k1;go_enter func158,ntmps158;go_wp2_with (first|(go_at_call 148;refine bM (zt _ _ _ _) λw' a=>?_;have a:=a.symm;subst a)|(go_at_call 224;refine bM (Zb _ _ _) λw' a=>?_;have a:=a.symm;subst a))
       go_ret;exact⟨zh (λh=>by rcases h.2.2 with h|h;exact g h.2.2;have h9:In (0:Int) 1 3:=h.1;unfold In at h9;omega),zd bZ _⟩
    ·have r:(cl == 0)=false:=by simpa using k0
     have f:=hI k0;clear k0
     by_cases k2:In cl 1 3
     ·have k:=Jd k2
      have b:=hI k2;clear k2
      cases all with
      |true =>
       by_cases k1:be=0
       ·subst k1
        go_enter func158,ntmps158;go_wp2_with (first|(go_at_call 148;refine bM (zt _ _ _ _) λw' a=>?_;have a:=a.symm;subst a)|(go_at_call 224;refine bM (Zb _ _ _) λw' a=>?_;have a:=a.symm;subst a))
        go_ret;exact⟨zN ⟨c,.inr d,.inr ⟨b,.inl ⟨rfl,rfl⟩⟩⟩,zd bZ _⟩
       ·have j:(be == 0)=false:=by simpa using k1
        have g:=hI k1;clear k1;go_enter func158,ntmps158;go_wp2_with (first|(go_at_call 148;refine bM (zt _ _ _ _) λw' a=>?_;have a:=a.symm;subst a)|(go_at_call 224;refine bM (Zb _ _ _) λw' a=>?_;have a:=a.symm;subst a))
        go_ret;exact⟨zh (λh=>by rcases h.2.2 with h|h;exact f h.1;rcases h.2 with h|h;exact g h.2;cases h.1),zd bZ _⟩
      |false =>
       by_cases k3:In be 1 4
       ·have l:=Jd k3
        have i:=hI k3;clear k3;go_enter func158,ntmps158;go_wp2_with (first|(go_at_call 148;refine bM (zt _ _ _ _) λw' a=>?_;have a:=a.symm;subst a)|(go_at_call 224;refine bM (Zb _ _ _) λw' a=>?_;have a:=a.symm;subst a))
        go_ret;exact⟨zN ⟨c,.inr d,.inr ⟨b,.inr ⟨rfl,i⟩⟩⟩,zd bZ _⟩
       ·have l:=Jc k3
        have i:=hI k3;clear k3;go_enter func158,ntmps158;go_wp2_with (first|(go_at_call 148;refine bM (zt _ _ _ _) λw' a=>?_;have a:=a.symm;subst a)|(go_at_call 224;refine bM (Zb _ _ _) λw' a=>?_;have a:=a.symm;subst a))
        go_ret;exact⟨zh (λh=>by rcases h.2.2 with h|h;exact f h.1;rcases h.2 with h|h;cases h.1;exact i h.2),zd bZ _⟩
     ·have k:=Jc k2
      have b:=hI k2;clear k2;go_enter func158,ntmps158;go_wp2_with (first|(go_at_call 148;refine bM (zt _ _ _ _) λw' a=>?_;have a:=a.symm;subst a)|(go_at_call 224;refine bM (Zb _ _ _) λw' a=>?_;have a:=a.symm;subst a))
      go_ret;exact⟨zh (λh=>by rcases h.2.2 with h|h;exact f h.1;exact b h.1),zd bZ _⟩
   ·have n:=Jc h3
    have d:=hI h3;clear h3;go_enter func158,ntmps158;go_wp2_with (first|(go_at_call 148;refine bM (zt _ _ _ _) λw' a=>?_;have a:=a.symm;subst a)|(go_at_call 224;refine bM (Zb _ _ _) λw' a=>?_;have a:=a.symm;subst a))
    go_ret;exact⟨zh (λh=>by rcases h.2.1 with h|h;exact o h.1;exact d h),zd bZ _⟩
 ·have p:=Jc h1
  have c:=hI h1;clear h1;go_enter func158,ntmps158;go_wp2_with (first|(go_at_call 148;refine bM (zt _ _ _ _) λw' a=>?_;have a:=a.symm;subst a)|(go_at_call 224;refine bM (Zb _ _ _) λw' a=>?_;have a:=a.symm;subst a))
  go_ret;exact⟨zh (λh=>c h.1),zd bZ _⟩
theorem RZ (s:ByteArray)(w:World)(hs:s.size<=1000000000000000) :
  Calls prog 156 #[s] w λe w'=>qH (Z7 s) e/\w'=w:=by
 by_cases h0:In (s.size:Int) 1 12
 ·have f:=hI h0
  have u:=Jd h0;have A:s.size<=12:=by have:=h0.2;omega
  clear h0;go_enter func156,ntmps156;go_wp2_with (first|(go_at_call 148;refine bM (zt _ _ _ _) λw' a=>?_;have a:=a.symm;subst a))
  go_loop [3,4] (λi _=>∃ k,k<=s.size/\i=int i64 k/\∀ j,j<k->Db (EZ s j)) (λi _=>s.size - (intOf i).toNat)
  case atStart=>exact⟨0,Jq _,rfl,λj z=>by omega⟩
  case round =>
   obtain⟨k,hk,rfl,b⟩:=hrel;have p:=hI b;clear b
   by_cases hlt:k<s.size
   ·have m:=Ha s k hlt
    obtain⟨y,n⟩:=nM (EZ s k);rw[← n] at m;have q:=hI n;clear n;have d:Db y->(∃ o,o<=s.size/\Value.int .i64 ((k:Int)+1)=Value.int .i64 (o:Int)/\∀ j,j<o->Db (EZ s j)):=λl=>⟨k+1,by omega,by simp,λj z=>by
     by_cases e:j=k
     ·subst e;rw[← q.out];exact l
     ·exact p j oM⟩
    have c:=hI d;have g:Hid (¬ Db y->¬ Z7 s):=λl h=>l (by rw[q.out];exact h.2.2 k hlt)
    clear d
    by_cases h1:97<=y
    ·have v:decide (97<=y)=true:=by simpa using h1
     by_cases h2:y<=122
     ·have x:decide (y<=122)=true:=by simpa using h2
      go_wp2;go_round
      case rel=>exact c (.inl ⟨h1,h2⟩)
      case measure=>simp[intOf];omega
     ·have x:decide (y<=122)=false:=by simpa using h2
      have r:decide (65<=y)=true:=by simp;omega
      have t:decide (y<=90)=false:=by simp;omega
      go_wp2;go_ret;exact⟨zh (g (by rintro(h|h) <;> omega)),rfl⟩
    ·have v:decide (97<=y)=false:=by simpa using h1
     by_cases h3:65<=y
     ·have r:decide (65<=y)=true:=by simpa using h3
      by_cases h4:y<=90
      ·have t:decide (y<=90)=true:=by simpa using h4
       go_wp2;go_round
       case rel=>exact c (.inr ⟨h3,h4⟩)
       case measure=>simp[intOf];omega
      ·have t:decide (y<=90)=false:=by simpa using h4
       go_wp2;go_ret;exact⟨zh (g (by rintro(h|h) <;> omega)),rfl⟩
     ·have r:decide (65<=y)=false:=by simpa using h3
      go_wp2;go_ret;exact⟨zh (g (by rintro(h|h) <;> omega)),rfl⟩
   ·obtain rfl:k=s.size:=by omega
    go_wp2;go_ret;exact⟨zN ⟨by have:=f.1;omega,by have:=f.2;omega,p⟩,rfl⟩
 ·have f:=hI h0
  have u:=Jc h0;clear h0;go_enter func156,ntmps156;go_wp2_with (first|(go_at_call 148;refine bM (zt _ _ _ _) λw' a=>?_;have a:=a.symm;subst a))
  go_ret;exact⟨zh (λh=>f ⟨by have:=h.1;omega,by have:=h.2.1;omega⟩),rfl⟩
theorem Zz (s:ByteArray)(w:World)(a:s.size<=1000000000000000) :
  Calls prog 156 #[s] w λe w'=>e=.returned (.bool (decide (Z7 s)))/\w'=w:=by
 refine(RZ s w a).mono ?_;rintro e w' ⟨⟨b',rfl,h⟩,rfl⟩;rw[Tp h (decide_eq_true_iff)];exact⟨rfl,rfl⟩
theorem Qi (k:Int)(w:World):Calls prog 162 #[k] w λe w'=>e=.returned (.bool (decide (In k 4 8)))/\w'=w:=by
 go_enter func162,ntmps162;go_wp2_with (first|(go_at_call 148;refine bM (zt _ _ _ _) λw' a=>?_;have a:=a.symm;subst a))
 go_ret;exact⟨rfl,rfl⟩
theorem Qe (k:Int)(w:World):Calls prog 160 #[k] w λe w'=>e=.returned (.bool (decide (zM k)))/\w'=w:=by
 obtain⟨c,d⟩:=nM (decide (zM k));rw[← d];have b:=hI d;clear d
 by_cases h1:k=1
 ·have a:Hid (c=true):=by rw[b.out];exact Jd (.inl h1)
  subst h1;go_enter func160,ntmps160;go_wp2;go_ret;exact⟨by rw[a.out];rfl,rfl⟩
 ·have e1:(k == 1)=false:=by simpa using h1
  by_cases h2:k=2
  ·have a:Hid (c=true):=by rw[b.out];exact Jd (.inr (.inl h2))
   subst h2;go_enter func160,ntmps160;go_wp2;go_ret;exact⟨by rw[a.out];rfl,rfl⟩
  ·have e2:(k == 2)=false:=by simpa using h2
   by_cases h3:k=3
   ·have a:Hid (c=true):=by rw[b.out];exact Jd (.inr (.inr (.inl h3)))
    subst h3;go_enter func160,ntmps160;go_wp2;go_ret;exact⟨by rw[a.out];rfl,rfl⟩
   ·have e3:(k == 3)=false:=by simpa using h3
    by_cases h5:k=5
    ·have a:Hid (c=true):=by rw[b.out];exact Jd (.inr (.inr (.inr h5)))
     subst h5;go_enter func160,ntmps160;go_wp2;go_ret;exact⟨by rw[a.out];rfl,rfl⟩
    ·have e5:(k == 5)=false:=by simpa using h5
     have a:Hid (c=false):=by rw[b.out];exact Jc (λh=>by rcases h with h|h|h|h;exact h1 h;exact h2 h;exact h3 h;exact h5 h)
     clear h1 h2 h3 h5;go_enter func160,ntmps160;go_wp2;go_ret;exact⟨by rw[a.out];rfl,rfl⟩
def zX (S:Nat->qe)(x:Int):Nat->Nat
 |0=>0
 |n+1=>if zX S x n<n then zX S x n else if (S n).S=x then n else n+1
theorem CM (S:Nat->qe)(x:Int)(n:Nat):zX S x n<=n:=by
 induction n with
 |zero=>exact Jr _
 |succ n ih=>unfold zX;split <;> (try split) <;> omega
theorem Me (S:Nat->qe)(x:Int)(n:Nat):∀ j,j<zX S x n->(S j).S≠x:=by
 induction n with
 |zero=>intro j a;unfold zX at a;omega
 |succ n ih =>
  intro j a;unfold zX at a;have hl:=CM S x n
  split at a
  ·exact ih j a
  ·rename_i h
   split at a
   ·exact ih j oM
   ·rename_i h2
    by_cases e:j=n
    ·subst e;exact h2
    ·exact ih j oM
theorem CN (S:Nat->qe)(x:Int)(n:Nat)(h:zX S x n<n):(S (zX S x n)).S=x:=by
 induction n with
 |zero=>omega
 |succ n ih =>
  unfold zX at h ⊢
  split
  ·rename_i h1;exact ih h1
  ·rename_i h1
   rw[Je h1] at h
   split
   ·rename_i h2;exact h2
   ·rename_i h2;rw[Je h2] at h;omega
theorem MZ {S:Nat->qe}{r:Nat}(hr:r<n)(b:(S r).S=x)(a:∀ j,j<r->(S j).S≠x):zX S x n=r:=by
 have h1:=Me S x n
 by_cases c:zX S x n<r
 ·exact absurd (CN S x n oM) (a _ c)
 ·by_cases c2:r<zX S x n
  ·exact absurd b (h1 r c2)
  ·omega
theorem Iw {S:Nat->qe}(a:∀ j,j<n->(S j).S≠x):zX S x n=n:=by
 have h1:=CM S x n
 by_cases c:zX S x n<n
 ·exact absurd (CN S x n c) (a _ c)
 ·omega
def KZ (N:Nat)(S:Nat->qe)(G:Nat->Int)(i:Nat):Prop :=
 zX S (G i) N<N/\(0<i->(S (zX S (G (i - 1)) N)).dst=(S (zX S (G i) N)).U/\(S (zX S (G (i - 1)) N)).T<=(S (zX S (G i) N)).O)
def Q6 (N:Nat)(S:Nat->qe)(n:Nat)(G:Nat->Int):Prop:=1<=n/\n<=3/\∀ i,i<n->KZ N S G i
def Bh (p:zv)(F:Nat->Int)(r:zU):Prop :=
 In r.H 0 ((p.n:Int) - 1)/\(r.h=true->F r.H.toNat=p.B r.H.toNat/\r.z=p.B r.H.toNat)/\(r.h=false->In r.z 1 (F r.H.toNat))
def ZK (p:zv)(S:Nat->zU)(i k:Nat):Int:=if k<p.n then qZ p S i k else 0
theorem ko (p:zv)(S:Nat->zU)(k:Nat):ZK p S 0 k=QM p.n p.B 0 k:=by
 unfold ZK QM
 split
 ·rw[Kk]
 ·rfl
theorem Di {p:zv}{S:Nat->zU}(h:k<p.n):ZK p S i k=qZ p S i k:=Jf h
theorem Sg (p:zv)(S:Nat->zU)(i l j:Nat)(a:l<p.n)(h:(S i).H=(l:Int)):(if j=l then ZK p S i l - (S i).z else ZK p S i j)=ZK p S (i+1) j:=by
 by_cases e:j=l
 ·subst e;rw[Jf rfl,Di a,Di a,DV p S i j h]
 ·rw[Je e]
  unfold ZK
  split
  ·rw[Gy p S i j (by rw[h];omega)]
  ·rfl
theorem Fg {p:zv}{S:Nat->zU}{r:zU}:Bh p (ZK p S i) r↔Bh p (qZ p S i) r:=by
 unfold Bh
 constructor
 ·rintro⟨h,h1,h2⟩
  have a:r.H.toNat<p.n:=by unfold In at h;omega
  rw[Di a] at h1 h2;exact⟨h,h1,h2⟩
 ·rintro⟨h,h1,h2⟩
  have a:r.H.toNat<p.n:=by unfold In at h;omega
  rw[Di a];exact⟨h,h1,h2⟩
def Lh (p:zv)(n:Nat)(S:Nat->zU):Prop :=
 Fc p/\n<=60/\∀ i,i<n->In (S i).e 1 9999/\¬ Qh (Zl S) i (S i).e/\Bh p (qZ p S i) (S i)
theorem Nc {S:Nat->zU}(h:∀ j,j<i->(S j).H≠(k:Int)):QA S k i=0:=by
 induction i with
 |zero=>rfl
 |succ i ih=>unfold QA;rw[ih (λj hj=>h j oM),Je (h i oM)];rfl
theorem Tu (p:zv)(S:Nat->zU)(k i:Nat)(h:∀ j,j<i->In (S j).z 1 4):qZ p S i k<=p.B k:=by
 have:=Ge p S k 0 i (Jq _) h;rw[Kk] at this;exact this
theorem IA {p:zv}{S:Nat->zU}(m:Fc p)(u:∀ i,i<n->Bh p (qZ p S i) (S i)):∀ i,i<=n->(∀ j,j<i->In (S j).z 1 4)/\∀ k,k<p.n->0<=qZ p S i k:=by
 intro i
 induction i with
 |zero =>
  intro _;refine⟨λj s=>by omega,λk c=>?_⟩
  have:=(m.2 k c).2;unfold In at this;rw[Kk];omega
 |succ i ih =>
  intro hi;obtain⟨a,b⟩:=ih oM;obtain⟨h,h1,h2⟩:=u i oM;obtain⟨l,o⟩:∃ l:Nat,(S i).H=l:=⟨(S i).H.toNat,by unfold In at h;omega⟩
  have d:l<p.n:=by unfold In at h;omega
  have r:(S i).H.toNat=l:=oM;rw[r] at h1 h2;have g:=(m.2 l d).2;have t:=Tu p S l i a;have f:=DV p S i l o;have q:In (S i).z 1 4/\0<=qZ p S (i+1) l:=by
   cases hall:(S i).h with
   |true =>
    have:=h1 hall;unfold In at g ⊢
    omega
   |false =>
    have:=h2 hall;unfold In at g this ⊢
    omega
  refine⟨λj s=>?_,λk c=>?_⟩
  ·by_cases e:j=i
   ·subst e;exact q.1
   ·exact a j oM
  ·by_cases e:k=l
   ·subst e;exact q.2
   ·rw[Gy p S i k (by rw[o];omega)];exact b k c
theorem IB {p:zv}{S:Nat->zU}(h:Lh p n S):QF p n S:=by
 obtain⟨o,z,a⟩:=h;have st:=IA o (λi b=>(a i b).2.2)
 refine⟨o,z,λi b=>⟨⟨(a i b).1,(a i b).2.1,(a i b).2.2.1,(st n (Jr _)).1 i b,λc=>((a i b).2.2.2.1 c).2⟩,λj hj v=>?_⟩,λk w=>(st n (Jr _)).2 k w⟩
 obtain⟨u,h1,h2⟩:=(a i b).2.2;obtain⟨_,q,B⟩:=(a j oM).2.2;obtain⟨l,x⟩:∃ l:Nat,(S i).H=l:=⟨(S i).H.toNat,by unfold In at u;omega⟩
 have s:(S i).H.toNat=l:=oM;have r:=v.trans x;have e:(S j).H.toNat=l:=oM;rw[s] at h1 h2;rw[e] at q B;have f:=(st n (Jr _)).1 j oM;have y:=Tu p S l j (λt A=>(st n (Jr _)).1 t oM)
 have m:=DV p S j l r;have g:=Ge p S l (j+1) i oM (λt A=>(st n (Jr _)).1 t oM)
 unfold In at f;have d:(S i).h=false:=by
  cases c:(S i).h with
  |false=>rfl
  |true=>have:=(h1 c).1;omega
 refine⟨?_,d⟩
 cases c:(S j).h with
 |false=>rfl
 |true =>
  have:=q c;have h3:=h2 d;unfold In at h3
  omega
theorem IC {p:zv}{S:Nat->zU}(h:QF p n S):Lh p n S:=by
 have t:=h.manys;obtain⟨q,u,b,a⟩:=h;refine⟨q,u,λi r=>?_⟩
 obtain⟨⟨h1,h2,c,l,m⟩,o⟩:=b i r;refine⟨h1,h2,c,λk=>⟨?_,m k⟩,λ_=>⟨l.1,?_⟩⟩
 ·have:QA S (S i).H.toNat i=0:=Nc (λj s e=>by
   have:=(o j s (by unfold In at c;omega)).2
   rw[k] at this;cases this)
  unfold qZ;rw[this];omega
 ·have d:(S i).H.toNat<p.n:=by unfold In at c;omega
  have g:=DV p S i (S i).H.toNat (by unfold In at c;omega)
  have f:=Ge p S (S i).H.toNat (i+1) n oM t;have:=a _ d
  omega
theorem CP {p:zv}{S:Nat->zU}:Lh p n S↔QF p n S:=⟨IB,IC⟩
theorem Nd {p:zv}{S:Nat->zU}(h:QF p n S):n<=24:=by
 have u:=h.manys;obtain⟨r,hn,d,b⟩:=h;have a:∀ i,_->∃ l:Nat,(S i).H=l/\l<p.n:=λi s=>by
  have q:=(d i s).1.2.2.1;exact⟨(S i).H.toNat,by unfold In at q;omega,by unfold In at q;omega⟩
 have hp:=r.1;have f:∀ i,i<=n->(i:Int)<=QA S 0 i+QA S 1 i+QA S 2 i+QA S 3 i+QA S 4 i+QA S 5 i:=by
  intro i
  induction i with
  |zero=>intro _;simp[QA]
  |succ i ih =>
   intro s;have:=ih oM;obtain⟨l,g,o⟩:=a i oM;have h1:=(u i oM).1;have m:l=0∨l=1∨l=2∨l=3∨l=4∨l=5:=oM;unfold QA;rw[g]
   rcases m with rfl|rfl|rfl|rfl|rfl|rfl <;> simp <;> omega
 have c:∀ k,QA S k n<=4:=λk=>by
  by_cases hk:k<p.n
  ·have h1:=b k hk
   have h2:=(r.2 k hk).2;unfold In at h2;unfold qZ at h1
   omega
  ·rw[Nc (λj t e=>by obtain⟨l,g,o⟩:=a j t;rw[g] at e;omega)];omega
 have:=f n (Jr _);have:=c 0;have:=c 1;have:=c 2;have:=c 3;have:=c 4;have:=c 5
 omega
theorem Qt (x:Int)(w:World) :
  Calls prog 89 #[int i64 x] w λe w'=>e=.returned (.bool (decide (In x 1 9999)))/\w'=w:=by
 go_enter func89,ntmps89;go_wp2_with (first|(go_at_call 148;refine(zt _ _ _ _).mono ?_;rintro e w' ⟨rfl,rfl⟩))
 go_ret;exact⟨rfl,rfl⟩
theorem Ob (q:Option Addr)(n c:Nat)(p:zv)(w:World)(t:p.n=n)(hn:n<=1048576)(x:zJ w q p) :
  Calls prog 151 #[(q,n,c)] w λe w'=>qH (Bk p 6 1 3 1 4) e/\Below w w w':=by
 have g:=hI t;clear t
 by_cases h0:n<=6
 ·have r:decide (6<n)=false:=by simp;omega
  go_enter func151,ntmps151;go_wp2;go_loopw [4,10] (λ_ i wr=>∃ k,k<=n/\i=int i64 k/\(∀ j,j<k->In (p.A j) 1 3/\In (p.B j) 1 4)/\Below w w wr) (λ_ i _=>n - (intOf i).toNat)
  case atStart=>exact⟨0,Jq _,rfl,λj m=>by omega,bZ⟩
  case round =>
   obtain⟨k,hk,rfl,f,d⟩:=hrel;have o:=hI f;clear f r
   by_cases hlt:k<n
   ·obtain⟨b,off,rfl,h1,h2⟩:=x k (by rw[g.out];omega)
    have s:=Ja w _ h1;have c1:=tR d h1 s;have c2:=tR d h2 s;clear h1 h2
    by_cases g1:In (p.A k) 1 3
    ·have u:=Jd g1
     by_cases g2:In (p.B k) 1 4
     ·have v:=Jd g2
      have l:Hid (_/\_):=⟨g1,g2⟩;clear g1 g2;go_wp2_with (first|(go_at_call 148;refine bM (zt _ _ _ _) λw' a=>?_;have a:=a.symm;subst a))
      go_roundw
      case rel=>exact⟨k+1,by omega,by go_num,λj m=>by
       by_cases e:j=k
       ·subst e;exact l
       ·exact o j oM,zd d _⟩
      case measure=>simp[intOf];omega
     ·have v:=Jc g2
      have l:=hI g2;clear g1 g2;go_wp2_with (first|(go_at_call 148;refine bM (zt _ _ _ _) λw' a=>?_;have a:=a.symm;subst a))
      go_ret;exact⟨zh (λh=>l (h.2 k (by rw[g.out];exact hlt)).2),zd d _⟩
    ·have u:=Jc g1
     have l:=hI g1;clear g1;go_wp2_with (first|(go_at_call 148;refine bM (zt _ _ _ _) λw' a=>?_;have a:=a.symm;subst a))
     go_ret;exact⟨zh (λh=>l (h.2 k (by rw[g.out];exact hlt)).1),zd d _⟩
   ·obtain rfl:k=n:=by omega
    go_wp2;go_ret;exact⟨zN ⟨by rw[g.out];exact h0,λj m=>o j (by rw[g.out] at m;exact m)⟩,d⟩
 ·have r:decide (6<n)=true:=by simp;omega
  go_enter func151,ntmps151;go_wp2;go_ret;exact⟨zh (λh=>by have:=h.1;rw[g.out] at this;exact h0 this),bZ⟩
theorem CQ (l:Option Addr)(n c:Nat)(S:Nat->zU)(x:Int)(w:World)(hn:n<=1048576)(r:qn w l n S) :
  Calls prog 152 #[(l,n,c),x] w λe w'=>qH (Qh (Zl S) n x) e/\Below w w w':=by
 go_enter func152,ntmps152;go_wp2;go_loopw [6,9] (λ_ i wr=>∃ k,k<=n/\i=int i64 k/\(∀ j,j<k->Zl S j≠x)/\Below w w wr) (λ_ i _=>n - (intOf i).toNat)
 case atStart=>exact⟨0,Jq _,rfl,λj q=>by omega,bZ⟩
 case round =>
  obtain⟨k,hk,rfl,d,a⟩:=hrel;have h:=hI d;clear d
  by_cases hlt2:k<n
  ·obtain⟨b,off,rfl,g,h1,h2,h3⟩:=r k hlt2
   have p:=Ja w _ g;obtain⟨c0,c1,c2,c3⟩:=OP a g h1 h2 h3 p;clear g h1 h2 h3
   by_cases he:Zl S k=x
   ·have o:((S k).e == x)=true:=by unfold Zl at he;simpa using he
    have f:Hid (Qh _ n x):=⟨k,hlt2,he⟩;clear he;go_wp2;go_ret;exact⟨zN f,zd a _⟩
   ·have o:((S k).e == x)=false:=by unfold Zl at he;simpa using he
    have m:Hid (_≠x):=he;clear he;go_wp2;go_roundw
    case rel=>exact⟨k+1,by omega,by go_num,λj q=>by
     by_cases e:j=k
     ·subst e;exact m
     ·exact h j oM,zd a _⟩
    case measure=>simp[intOf];omega
  ·obtain rfl:k=n:=by omega
   have f:=hI (DC h);go_wp2;go_ret;exact⟨zh f,a⟩
theorem Gj (F bo:Option Addr)(m Z n c:Nat)(p:zv)(S:Nat->zU)(w:World)(y:p.n=m)(s:Fc p)(hn:n<=60)(I:∀ j,j<n->In (S j).z 1 4)(K:zJ w F p)(L:qn w bo n S) :
  Calls prog 153 #[(F,m,Z),(bo,n,c)] w λe w'=>(∃ v,e=.returned v/\w'.ownsRow w 3 1 v m (qp (qZ p S n) m))/\Below w w w':=by
 obtain⟨X,Y,A,B,C⟩:=info_parts Tryz.infoInt;have D:=hI y;have P:=hI s;have E:=hI I;have Q:=hI K;have R:=hI L;have U:m<=6:=by rw[← y];exact s.1
 clear y s I K L;go_enter func153,ntmps153;go_wp2;go_loopw [5,6,7,8,10,13,20,21,22] (λv _ _ _ _ i _ _ _ wr=>∃ k,k<=m/\i=int i64 k/\wr.ownsRow w 3 1 v k (qp (qZ p S n) k)/\Below w w wr) (λ_ _ _ _ _ i _ _ _ _=>m - (intOf i).toNat)
 case atStart=>exact⟨0,Jq _,rfl,⟨rfl,.inl ⟨rfl,rfl⟩⟩,bZ⟩
 case round =>
  obtain⟨k,hk,rfl,g,f⟩:=hrel
  by_cases hlt:k<m
  ·obtain⟨b,off,rfl,h1,h2⟩:=Q k (by rw[D.out];exact hlt)
   have G:=Ja w _ h1;have c1:=tR f h1 G;have c2:=tR f h2 G;clear h1 h2;go_wp2;go_loopw [8,10,22] (λs8 _ i N=>∃ t,t<=n/\i=int i64 t/\s8=int i64 (qZ p S t k)/\N.ownsRow w 3 1 u5 k (qp (qZ p S n) k)/\Below w w N) (λ_ _ i _=>n - (intOf i).toNat)
   case atStart=>exact⟨0,Jq _,rfl,by rw[Kk],zm (zd bZ _) g,zd f _⟩
   case round =>
    obtain⟨t,ht,rfl,rfl,d,a⟩:=hrel;clear g f c1 c2
    by_cases hlt2:t<n
    ·obtain⟨b2,M,rfl,q,h1,h2,h3⟩:=R t hlt2
     have r:=Ja w _ q;obtain⟨c0,c1,c2,c3⟩:=OP a q h1 h2 h3 r;clear q h1 h2 h3
     by_cases he:(S t).H=(k:Int)
     ·have T:((S t).H == (k:Int))=true:=by simpa using he
      have l:=hI he;have W:IntKind.i64.wrap (qZ p S t k - (S t).z)=qZ p S t k - (S t).z:=by
       have h1:=Eo P (show t<=60 by omega) (λj H=>E j oM) (show k<p.n by rw[D.out];exact hlt)
       have h2:=E t hlt2;unfold In at h2;rw[Jk];omega
      clear he;go_wp2;go_roundw
      case rel=>exact⟨t+1,by omega,by go_num,by rw[DV p S t k l.out],zm (zd bZ _) d,zd a _⟩
      case measure=>simp[intOf];omega
     ·have T:((S t).H == (k:Int))=false:=by simpa using he
      have l:Hid (_≠_):=he;clear he;go_wp2;go_roundw
      case rel=>exact⟨t+1,by omega,by go_num,by rw[Gy p S t k l.out],zm (zd bZ _) d,zd a _⟩
      case measure=>simp[intOf];omega
    ·obtain rfl:t=n:=by omega
     have V:=a.size;have O:Hid (∀ o,(some (wr.heap.size,0):Option Addr)=some o->∀ j u,[Value.int .i64 (qZ p S t k)][j]?=some u->(wr.alloc (.cells #[(qZ p S t k)] 3)).cell? (o.add j)=some u):=by
      intro o e
      cases e
      exact Jo (Jb wr _)
     go_wp2_with (first|(at_builtin;refine zu _ rfl _ _ 27 rfl _ 3 X _ 1 8 underlying27 Y A B C rfl dC _ k _ (by rfl) (d.alloc _) _ 1 1 _ rfl (λh=>(by cases h)) rfl O (by intro u J;simp at J;subst J;rfl) (by unfold maxLen;omega) oM (by simp;omega) ?_;intro v' w3 z x))
     go_roundw
     case rel=>exact⟨k+1,by omega,by go_num,by rw[Gp];exact z,(zd a _).grown x (by simp;omega) (λj H=>(d.lt j H).1)⟩
     case measure=>simp[intOf];omega
  ·obtain rfl:k=m:=by omega
   go_wp2;go_ret;exact⟨⟨_,rfl,g⟩,f⟩
theorem Mg (ao bo:Option Addr)(m mc n c:Nat)(p:zv)(S:Nat->zU)(w:World)(O:p.n=m)(hm:m<=1048576)(hn:n<=1048576)(hc:n<=c)(hx:zJ w ao p)(hz:qn w bo n S) :
  Calls prog 83 #[(ao,m,mc),(bo,n,c)] w λe w'=>qH (QF p n S) e/\Below w w w':=by
 have H:=hI O;have HX:=hI hx;have F:=hI hz;clear O hx hz;go_enter func83,ntmps83;go_wp2_with fail;refine(Ob ao m mc p _ H hm HX).mono ?_;rintro e w1 ⟨⟨q,rfl,hq⟩,G⟩
 cases q with
 |false =>
  have Q:Hid (¬ Fc p):=λh=>by have:=hq.2 h;cases this
  clear hq;go_wp2;go_ret;exact⟨zh (λh=>Q h.1),G⟩
 |true =>
  have Q:Hid (Fc p):=hq.1 rfl;have a9:m<=6:=by rw[← H.out];exact Q.1
  clear hq
  by_cases h60:n<=60
  ·have d0:decide (60<n)=false:=by simp;omega
   have b1:IntKind.i64.wrap ((m:Int) - 1)=(m:Int) - 1:=by rw[Jk];omega
   go_wp2;go_loopw [5,6,8,21,70,71,72] (λ_ _ _ i _ _ _ wr=>∃ k,k<=n/\i=int i64 k/\(∀ j,j<k->px p S j)/\Below w w wr) (λ_ _ _ i _ _ _ _=>n - (intOf i).toNat)
   case atStart=>exact⟨0,Jq _,rfl,λj A=>by omega,G⟩
   case round =>
    obtain⟨i,y,rfl,d,o⟩:=hrel;have HA:=hI d;clear d G
    by_cases hlt:i<n
    ·obtain⟨b,off,rfl,K,h1,h2,h3⟩:=F i hlt
     have U:=Ja w _ K;obtain⟨c0,c1,c2,c3⟩:=OP o K h1 h2 h3 U;have t:=Jb wr (.cells #[(S i).e,(S i).H,(S i).z,(S i).h] 228);have r:=zd o (.cells #[(S i).e,(S i).H,(S i).z,(S i).h] 228);clear K h1 h2 h3;go_upto_region 6 with fail;generalize hW:wr.alloc _=W at t r ⊢;clear hW;have b0:=zD t;have u:=hI t;generalize wr.heap.size=B at *;clear c0 c1 c2 c3 t o;have i1:=n0 i;have i2:(i:Int)<=(c:Int):=oM;go_cut [67] (λa3 wx=>Kr (fu p S i) a3/\Below W W wx)
     case first =>
      have z0:=gC u 0;have z1:=gC u 1;have z2:=gC u 2;have z3:=gC u 3
      by_cases g1:In (S i).e 1 9999
      ·have x:=Jd g1
       have H1:=hI g1;clear g1
       by_cases g2:Qh (Zl S) i (S i).e
       ·have D:=hI g2
        clear g2;refine ze kR kR ?_
        repeat(go_big_quiet_step ((rename_i g;first|(go_at_call 89;refine gE (v:=.bool true) (Qt _ _) (by rw[x]))|(go_at_call 152;refine zr (v:=.bool true) ((CQ _ i c S _ _ oM ((F.j9 oM).j0 (zb r g.o))).mono ?_);rintro e w4 ⟨⟨bb,rfl,y⟩,f⟩;obtain rfl:=y.2 D;exact⟨rfl,f⟩))))
        refine Jl ?_;rintro _ ⟨g,rfl⟩;go_wp2;go_meet;exact⟨Q4 (λh=>h.2.1 D),g.o⟩
       ·have D:=hI g2
        clear g2
        by_cases g3:In (S i).H 0 ((m:Int) - 1)
        ·have H3:Hid (In (S i).H 0 ((p.n:Int) - 1)):=by rw[H.out];exact g3
         obtain⟨l,O⟩:∃ l:Nat,(S i).H=l:=⟨(S i).H.toNat,by unfold In at g3;omega⟩
         have a5:l<m:=by unfold In at g3;omega
         have R:=hI O;have P:decide (In (l:Int) 0 _)=true:=Jd (by rw[← O];exact g3)
         have b4:∀ g:zy W,g.val.cell? _=_:=λg=>by rw[z1 g,O]
         obtain⟨b',a6,rfl,k1,k2⟩:=HX l (by rw[H.out];exact a5)
         have a4:=Ja w _ k1;have y2:=gW r k2 a4;have l1:=n0 l;have l2:(l:Int)<(m:Int):=oM;clear g3 z1 O k1 k2
         by_cases g4:In (S i).z 1 4
         ·have T:=Jd g4
          have H4:=hI g4;clear g4
          cases d:(S i).h with
          |false =>
           rw[d] at z3;have H5:=hI d;clear d;refine ze kR kR ?_
           repeat(go_big_quiet_step ((rename_i g;first|(go_at_call 89;refine gE (v:=.bool true) (Qt _ _) (by rw[x]))|(go_at_call 152;refine zr (v:=.bool false) ((CQ _ i c S _ _ oM ((F.j9 oM).j0 (zb r g.o))).mono ?_);rintro e w4 ⟨⟨bb,rfl,y⟩,f⟩;obtain rfl:=Bool.eq_false_iff.2 (λe=>D (y.1 e));exact⟨rfl,f⟩)|(go_at_call 148;first|(refine gE (v:=.bool true) (zt _ _ _ _) (by rw[P]))|(refine gE (v:=.bool true) (zt _ _ _ _) (by rw[T]))))))
           refine Jl ?_;rintro _ ⟨g,rfl⟩;go_wp2;go_meet;exact⟨Ag ⟨H1,D,H3,H4,λh=>by rw[H5.out] at h;cases h⟩,g.o⟩
          |true =>
           rw[d] at z3;have H5:=hI d;clear d
           by_cases g6:(S i).z=p.B l
           ·have e6:((S i).z == p.B l)=true:=by simpa using g6
            have e7:((S i).z != p.B l)=false:=by simpa using g6
            have H6:=hI g6;clear g6;refine ze kR kR ?_
            repeat(go_big_quiet_step ((rename_i g;first|(go_at_call 89;refine gE (v:=.bool true) (Qt _ _) (by rw[x]))|(go_at_call 152;refine zr (v:=.bool false) ((CQ _ i c S _ _ oM ((F.j9 oM).j0 (zb r g.o))).mono ?_);rintro e w4 ⟨⟨bb,rfl,y⟩,f⟩;obtain rfl:=Bool.eq_false_iff.2 (λe=>D (y.1 e));exact⟨rfl,f⟩)|(go_at_call 148;first|(refine gE (v:=.bool true) (zt _ _ _ _) (by rw[P]))|(refine gE (v:=.bool true) (zt _ _ _ _) (by rw[T]))))))
            refine Jl ?_;rintro _ ⟨g,rfl⟩;go_wp2;go_meet;exact⟨Ag ⟨H1,D,H3,H4,λ_=>by rw[R.out];exact H6⟩,g.o⟩
           ·have e6:((S i).z == p.B l)=false:=by simpa using g6
            have e7:((S i).z != p.B l)=true:=by simpa using g6
            have H6:=hI g6;clear g6;refine ze kR kR ?_
            repeat(go_big_quiet_step ((rename_i g;first|(go_at_call 89;refine gE (v:=.bool true) (Qt _ _) (by rw[x]))|(go_at_call 152;refine zr (v:=.bool false) ((CQ _ i c S _ _ oM ((F.j9 oM).j0 (zb r g.o))).mono ?_);rintro e w4 ⟨⟨bb,rfl,y⟩,f⟩;obtain rfl:=Bool.eq_false_iff.2 (λe=>D (y.1 e));exact⟨rfl,f⟩)|(go_at_call 148;first|(refine gE (v:=.bool true) (zt _ _ _ _) (by rw[P]))|(refine gE (v:=.bool true) (zt _ _ _ _) (by rw[T]))))))
            refine Jl ?_;rintro _ ⟨g,rfl⟩;go_wp2;go_meet;exact⟨Q4 (λh=>H6 (by have:=h.2.2.2.2 H5;rw[R.out] at this;exact this)),g.o⟩
         ·have T:=Jc g4
          have H4:=hI g4;clear g4;refine ze kR kR ?_
          repeat(go_big_quiet_step ((rename_i g;first|(go_at_call 89;refine gE (v:=.bool true) (Qt _ _) (by rw[x]))|(go_at_call 152;refine zr (v:=.bool false) ((CQ _ i c S _ _ oM ((F.j9 oM).j0 (zb r g.o))).mono ?_);rintro e w4 ⟨⟨bb,rfl,y⟩,f⟩;obtain rfl:=Bool.eq_false_iff.2 (λe=>D (y.1 e));exact⟨rfl,f⟩)|(go_at_call 148;first|(refine gE (v:=.bool true) (zt _ _ _ _) (by rw[P]))|(refine gE (v:=.bool false) (zt _ _ _ _) (by rw[T]))))))
          refine Jl ?_;rintro _ ⟨g,rfl⟩;go_wp2;go_meet;exact⟨Q4 (λh=>H4 h.2.2.2.1),g.o⟩
        ·have P:=Jc g3
         have H3:Hid (¬ In (S i).H 0 ((p.n:Int) - 1)):=by rw[H.out];exact g3
         clear g3;refine ze kR kR ?_
         repeat(go_big_quiet_step ((rename_i g;first|(go_at_call 89;refine gE (v:=.bool true) (Qt _ _) (by rw[x]))|(go_at_call 152;refine zr (v:=.bool false) ((CQ _ i c S _ _ oM ((F.j9 oM).j0 (zb r g.o))).mono ?_);rintro e w4 ⟨⟨bb,rfl,y⟩,f⟩;obtain rfl:=Bool.eq_false_iff.2 (λe=>D (y.1 e));exact⟨rfl,f⟩)|(go_at_call 148;first|(refine gE (v:=.bool false) (zt _ _ _ _) (by rw[P]))))))
         refine Jl ?_;rintro _ ⟨g,rfl⟩;go_wp2;go_meet;exact⟨Q4 (λh=>H3 h.2.2.1),g.o⟩
      ·have x:=Jc g1
       have H1:=hI g1;clear g1;refine ze kR kR ?_
       repeat(go_big_quiet_step ((first|(go_at_call 89;refine gE (v:=.bool false) (Qt _ _) (by rw[x])))))
       refine Jl ?_;rintro _ ⟨g,rfl⟩;go_wp2;go_meet;exact⟨Q4 (λh=>H1 h.1),g.o⟩
     case rest =>
      obtain⟨⟨tb,rfl,Y⟩,M⟩:=hcut;have HT:=hI Y;have s:=zb r M;have N:=za u M;clear Y r M u
      cases tb with
      |true =>
       have a2:Hid (¬ _):=λh=>by have:=HT.2 h;cases this
       clear HT;go_wp2;go_ret;exact⟨zh (λh=>a2 (h.2.2.1 i hlt).1),s⟩
      |false =>
       have H0:=hI (HT.1 rfl);clear HT;generalize wc=W2 at *;go_wp2;go_loopw [8,72] (λ_ j wq=>∃ k,k<=i/\j=int i64 k/\(∀ j,j<k->kd S i j)/\Below W2 W2 wq) (λ_ j _=>i - (intOf j).toNat)
       case atStart=>exact⟨0,Jq _,rfl,λj A=>by omega,bZ⟩
       case round =>
        obtain⟨k,hk,rfl,z,a⟩:=hrel;have I:=hI z;clear z
        by_cases hlt2:k<i
        ·obtain⟨b2,a7,e2,K,h1,h2,h3⟩:=F k oM
         simp only[Option.some.injEq,Addr.mk.injEq,and_true] at e2;obtain⟨rfl,rfl⟩:=e2;have c0:=tR (zb s a) K U;have c1:=tR (zb s a) h1 U;have c2:=tR (zb s a) h2 U;have c3:=tR (zb s a) h3 U;have L:=zg (za N a) (.cells #[(S k).e,(S k).H,(S k).z,(S k).h] 228);have y1:=bC L 1;have y3:=bC L 3;clear K h1 h2 h3 L
         by_cases g1:(S k).H=(S i).H
         ·have x:((S k).H == (S i).H)=true:=by simpa using g1
          have E:=hI g1;clear g1
          cases ho:(S k).h with
          |true =>
           rw[ho] at c3 y1 y3;have HO:=hI ho;clear ho;go_wp2;go_ret;exact⟨zh (λh=>by have:=((h.2.2.1 i hlt).2 k hlt2 E).1;rw[HO.out] at this;cases this),zb s (zd a _)⟩
          |false =>
           rw[ho] at c3 y1 y3;have HO:=hI ho;clear ho
           cases hr:(S i).h with
           |true =>
            rw[hr] at y3;have HR:=hI hr;clear hr;go_wp2;go_ret;exact⟨zh (λh=>by have:=((h.2.2.1 i hlt).2 k hlt2 E).2;rw[HR.out] at this;cases this),zb s (zd a _)⟩
           |false =>
            rw[hr] at y3;have HR:=hI hr;clear hr;go_wp2;go_roundw
            case rel=>exact⟨k+1,by omega,by go_num,λj A=>by
             by_cases e:j=k
             ·subst e;exact λ_=>⟨HO,HR⟩
             ·exact I j oM,zd a _⟩
            case measure=>simp[intOf];omega
         ·have x:((S k).H == (S i).H)=false:=by simpa using g1
          have E:=hI g1;clear g1;go_wp2;go_roundw
          case rel=>exact⟨k+1,by omega,by go_num,λj A=>by
           by_cases e:j=k
           ·subst e;exact λh=>absurd h E
           ·exact I j oM,zd a _⟩
          case measure=>simp[intOf];omega
        ·obtain rfl:k=i:=by omega
         have a1:Hid (∀ j,j<k+1->px p S j):=λj A=>by
          by_cases e:j=k
          ·subst e;exact⟨H0,I⟩
          ·exact HA j oM
         go_wp2;go_roundw
         case rel=>exact⟨_,by omega,by go_num,a1,zb s a⟩
         case measure=>simp[intOf];omega
    ·obtain rfl:i=n:=by omega
     go_wp2_with fail;refine(Gj ao bo m mc i c p S _ H Q h60 (λj A=>(HA j A).1.2.2.2.1) (HX.j0 o) (F.j0 o)).mono ?_
     rintro e w2 ⟨⟨v,rfl,C⟩,V⟩;obtain⟨aw,cw,rfl,_⟩:=zn C;have HI:=hI (Bo C);have X:=zb o V;clear C V o;go_wp2;go_loopw [10,95] (λ_ j wr=>∃ k,k<=m/\j=int i64 k/\(∀ j,j<k->0<=qZ p S i j)/\wr=w2) (λ_ j _=>m - (intOf j).toNat)
     case atStart=>exact⟨0,Jq _,rfl,λj A=>by omega,rfl⟩
     case round =>
      obtain⟨k,hk,rfl,d,Z⟩:=hrel;have a0:=Z.symm;subst a0;clear Z;have HK:=hI d;clear d
      by_cases hlt3:k<m
      ·obtain⟨b3,a8,rfl,K⟩:=HI k hlt3
       by_cases hneg:qZ p S i k<0
       ·have x:=Jd hneg
        have J:=hI hneg;clear hneg;go_wp2;go_ret;exact⟨zh (λh=>by have:=h.2.2.2 k (by rw[H.out];exact hlt3);have:=J.out;omega),X⟩
       ·have x:=Jc hneg
        have J:=hI hneg;clear hneg;go_wp2;go_roundw
        case rel=>exact⟨k+1,by omega,by go_num,λj A=>by
         by_cases e:j=k
         ·subst e;have:=J.out;omega
         ·exact HK j oM,by trivial⟩
        case measure=>simp[intOf];omega
      ·obtain rfl:k=m:=by omega
       go_wp2;go_ret;exact⟨zN ⟨Q,h60,HA,λj A=>HK j (by rw[H.out] at A;exact A)⟩,X⟩
  ·have d0:decide (60<n)=true:=by simp;omega
   go_wp2;go_ret;exact⟨zh (λh=>h60 h.2.1),G⟩
theorem Z5 (x:Int)(w:World) :
  Calls prog 102 #[int i64 x] w λe w'=>e=.returned (.bool (decide (In x 1 9999)))/\w'=w:=by
 go_enter func102,ntmps102;go_wp2_with (first|(go_at_call 191;refine(zx _ _ _ _).mono ?_;rintro e w' ⟨rfl,rfl⟩))
 go_ret;exact⟨rfl,rfl⟩
theorem IE (many cl be free:Int)(w:World) :
  Calls prog 337 #[.agg #[many],.agg #[cl,be],free] w λe w'=>e=.returned (.tuple #[.agg #[(),(),many,.bool false],.bool (decide (In many 1 free))])/\Below w w w':=by
 go_enter func337,ntmps337;go_upto_region 1 with fail;go_region_with (first|(go_at_call 191;refine bM (zx _ _ _ _) λw' a=>?_;have a:=a.symm;subst a))
 all_goals
  have b:=by
   have:=Jb ((w.alloc (.cells #[many] 381)).alloc (.cells #[cl,be] 231)) (.cells #[(),(),many,.bool false] 228);rw[World.size_alloc,World.size_alloc] at this;exact zK this
  obtain⟨d,f,g,h⟩:=Qk b;have c:Hid (Below _ w (((w.alloc (.cells #[many] 381)).alloc (.cells #[cl,be] 231)).alloc (.cells #[(),(),many,.bool false] 228)).drew):=(zd (zd (zd bZ _) _) _).drew;clear b;generalize (((w.alloc _).alloc _).alloc _).drew=W at *;go_wp2;exact Jj (by simp[results,results337,go_sem,d,f,g,h]) rfl ⟨rfl,c⟩
theorem IF (a cl be free:Int)(w:World) :
  Calls prog 336 #[.agg #[a],.agg #[cl,be],free] w λe w'=>e=.returned (.tuple #[.agg #[(),(),be,.bool true],.bool (decide (free=be/\a<=be))])/\Below w w w':=by
 by_cases h:free=be
 ·have k:(free == be)=true:=by simpa using h
  by_cases h2:a<=be
  ·have l:=Jd h2
   have d:Hid (decide (_/\_)=true):=Jd ⟨h,h2⟩;clear h h2;go_enter func336,ntmps336;go_upto_region 1 with fail;go_region
   all_goals
    have b:=by
     have:=Jb ((w.alloc (.cells #[a] 379)).alloc (.cells #[cl,be] 231)) (.cells #[(),(),be,.bool true] 228);rw[World.size_alloc,World.size_alloc] at this;exact zK this
    obtain⟨f,g,i,j⟩:=Qk b;have c:Hid (Below _ w (((w.alloc (.cells #[a] 379)).alloc (.cells #[cl,be] 231)).alloc (.cells #[(),(),be,.bool true] 228)).drew):=(zd (zd (zd bZ _) _) _).drew;clear b;generalize (((w.alloc _).alloc _).alloc _).drew=W at *;go_wp2;exact Jj (v:=.tuple #[.agg #[(),(),be,.bool true],.bool true]) (by simp[results,results336,go_sem,f,g,i,j]) rfl ⟨by rw[d.out],c⟩
  ·have l:=Jc h2
   have d:Hid (decide (free=be/\_)=false):=Jc (λq=>h2 q.2)
   clear h h2;go_enter func336,ntmps336;go_upto_region 1 with fail;go_region
   all_goals
    have b:=by
     have:=Jb ((w.alloc (.cells #[a] 379)).alloc (.cells #[cl,be] 231)) (.cells #[(),(),be,.bool true] 228);rw[World.size_alloc,World.size_alloc] at this;exact zK this
    obtain⟨f,g,i,j⟩:=Qk b;have c:Hid (Below _ w (((w.alloc (.cells #[a] 379)).alloc (.cells #[cl,be] 231)).alloc (.cells #[(),(),be,.bool true] 228)).drew):=(zd (zd (zd bZ _) _) _).drew;clear b;generalize (((w.alloc _).alloc _).alloc _).drew=W at *;go_wp2;exact Jj (v:=.tuple #[.agg #[(),(),be,.bool true],.bool false]) (by simp[results,results336,go_sem,f,g,i,j]) rfl ⟨by rw[d.out],c⟩
 ·have k:(free == be)=false:=by simpa using h
  have d:Hid (decide (_/\a<=be)=false):=Jc (λq=>h q.1)
  clear h;go_enter func336,ntmps336;go_upto_region 1 with fail;go_region
  all_goals
   have b:=by
    have:=Jb ((w.alloc (.cells #[a] 379)).alloc (.cells #[cl,be] 231)) (.cells #[(),(),be,.bool true] 228);rw[World.size_alloc,World.size_alloc] at this;exact zK this
   obtain⟨f,g,i,j⟩:=Qk b;have c:Hid (Below _ w (((w.alloc (.cells #[a] 379)).alloc (.cells #[cl,be] 231)).alloc (.cells #[(),(),be,.bool true] 228)).drew):=(zd (zd (zd bZ _) _) _).drew;clear b;generalize (((w.alloc _).alloc _).alloc _).drew=W at *;go_wp2;exact Jj (v:=.tuple #[.agg #[(),(),be,.bool true],.bool false]) (by simp[results,results336,go_sem,f,g,i,j]) rfl ⟨by rw[d.out],c⟩
theorem nilB (many : Int) (w : World) : (nilAhead 525 381 (.agg #[.int .i64 many]) "loop.example/g00084/impl.roomIn").run Tryz.prog w = .ok (some false) w := by kernel_rfl
theorem nilW (least : Int) (w : World) : (nilAhead 525 379 (.agg #[.int .i64 least]) "loop.example/g00084/impl.roomIn").run Tryz.prog w = .ok (some false) w := by kernel_rfl
theorem methB (many : Int) (w : World) : (method 525 381 (.agg #[.int .i64 many]) "loop.example/g00084/impl.roomIn").run Tryz.prog w = .ok (337, .agg #[.int .i64 many]) w := by kernel_rfl
theorem methW (least : Int) (w : World) : (method 525 379 (.agg #[.int .i64 least]) "loop.example/g00084/impl.roomIn").run Tryz.prog w = .ok (336, .agg #[.int .i64 least]) w := by kernel_rfl
theorem Ng (x c many:Int)(all:Bool)(w:World) :
  Calls prog 286 #[.agg #[x,c,many,all]] w λe w'=>e=.returned (if all then .iface 379 (.agg #[()]) else .iface 381 (.agg #[many]))/\Below w w w':=by
 cases all with
 |false =>
  go_enter func286,ntmps286;go_wp2;go_ret;exact⟨rfl,zd bZ _⟩
 |true =>
  go_enter func286,ntmps286;go_wp2;go_ret;exact⟨rfl,zd bZ _⟩
theorem zp (h:w.grownBy w' none):Below w w w':=bZ.grown h (Jr _) sM
theorem zZ {A:Array Oper}{o:Oper}{a:Act}{K:Act->World->Prop}{Q:Exit->Act->World->Prop}{E:Prop}
  (l:o.guard=none) (s x:Operand) (t:TypeId) (r:o.op=Op.call { callee:=Callee.builtin Builtin.append,args:=#[s,x],argTypes:=#[t,t] })
  (e:TypeId) (i:TypeInfo) (z:Value) (size bytes:Nat) (h1:P.underlying t=some (.slice e)) (h2:P.info? e=some i) (h3:i.zero=some z) (F:i.size=size) (L:i.bytes=bytes) (M:z.cells.size=size) (N:0<size)
  (base b:Nat) (C:a.eval s=.slice (some (b,0)) 0 0) (O:base<=b) (v:w.heap[b]?=some (.cells #[] e (0,0)))
  (bo:Option Addr) (m c:Nat) (f:List Value) (D:a.eval x=.slice bo m c) (n:bo=none->m=0/\c=0) (I:f.length=m*size) (S:∀ ad,bo=some ad->∀ j u,f[j]?=some u->w.cell? (ad.add j)=some u) (B:∀ u ∈ f,u.oneCell'=true)
  (b1:m<=maxLen) (J:m*bytes<=140737488355328)
  (G:∀ k c' w',w.grownBy w' none->w'.ownsRow base e size (k,m,c') m f->(∀ g,(Value.slice k m c').ownBlock=some g->g=b∨w.heap.size<=g)->K (a.put o.dst (k,m,c')) w') :
  if Region.wanted o (yielded A a.tmps)=true then Oper.wp P o a w K Q else E:=by
 have R:=zD v
 by_cases hm:m=0
 ·subst hm
  have q:=List.eq_nil_of_length_eq_zero (by simpa using I)
  subst q;have H:=G _ 0 w (World.grownBy.refl w _) ⟨by simp,.inr ⟨b,0,#[],rfl,O,v,Jr _,Jq _,by simp,by simp⟩⟩ (λg l=>by simp only[Value.ownBlock,Option.some.injEq] at l;exact .inl l.symm)
  have V:Region.wanted o (yielded A a.tmps)=true:=by simp[Region.wanted,l]
  cases bo with
  |none =>
   obtain⟨_,rfl⟩:=n rfl;rw[Jf V];unfold Oper.wp;have y:(Builtin.append_ #[t,t] o.type #[(some (b,0),0,0),True]).run P w=.ok (some (b,0),0,0) w:=by
    simp[Builtin.append_,run_underlying h1,sizeOf,typeInfo,h2,Builtin.lenOf,Builtin.firstCells,storeCells]
   simp[execOp,r,resolve,invoke,builtin,C,D,y,Result.andThen];exact H
  |some ad=>exact step_append_room l s x t r e i _ h1 h2 F b 0 0 0 C ad 0 c [] D sM sM sM (Jr _) sM (by simpa [World.setCells] using H)
 ·cases bo with
  |none=>exact absurd (n rfl).1 hm
  |some ad =>
   refine step_append_grows l s x t r e i z _ _ h1 h2 h3 F L M N _ 0 0 [] C (by intro h;cases h) sM sM ad m c _ D I (S ad rfl) B oM oM (by rw[Nat.zero_add];exact J) ?_
   intro v' w' d p;rw[Nat.zero_add,List.nil_append] at d;obtain⟨k,c',rfl,T,U,_⟩:=zn d;exact G k c' w' p (zo d oM) (λg l=>.inr (d.lt g l).1)
end Go.Proofs.YtmdnjgihooflfaaGreatDoor

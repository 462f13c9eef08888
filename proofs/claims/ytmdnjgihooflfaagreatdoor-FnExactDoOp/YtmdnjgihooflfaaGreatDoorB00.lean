/-
  OWN TEXT: Kit, KitS, KitSh, LPair, LSail, LSails, Kit2.
-/
import Derived.WalkKit
import Derived.WalkSpells
import Derived.WalkSmall
import Derived.Deep.OwnRows
import Derived.Deep.AppendLies
import Derived.Laws.AppendOwnNone
import Derived.Deep.QuietTactic
import Derived.BigQuiet
import Derived.Test.YtmdnjgihooflfaaGreatDoorRows
import Derived.Deep.RegionHeld3
import Derived.Test.YtmdnjgihooflfaaGreatDoorKitCo
namespace Go.Proofs.YtmdnjgihooflfaaGreatDoor
open Go.RowKit
open Go.Value (int)
open Go.IntKind (i64)
open Tryz
set_option maxHeartbeats 64000000
set_option maxRecDepth 100000
section
open Go.RowKit
variable{w w':World}{n g t b k i base e size:Nat}{o:Obj}{f:Nat->Value}{α:Type}{v v0 v1 v2 v3 v4 v5 v6 v7 a c:Value}{d r:List Value}
abbrev Ja:=@World.block_lt_of_cell?
abbrev Jb:=@heap_alloc_new
abbrev Jc:=@decide_eq_false
abbrev Jd:=@decide_eq_true
abbrev Je:=@if_neg
abbrev Jf:=@if_pos
abbrev Jg:=@Exists.intro
abbrev Jh:=@Below.drew
abbrev Ji:=@Below.refl
abbrev Jj:=@bodyPost_ret
abbrev Jk:=@IntKind.wrap_i64
abbrev Jl:=@wpQuiet_nil
abbrev Jm:=@Calls.mono
abbrev Jn:=@World.ownsRow.frozenAt
abbrev Jo:=@World.news_of_block
abbrev Jp:=@Nat.le_trans
abbrev Jq:=@Nat.zero_le
abbrev Jr:=@Nat.le_refl
abbrev Js:=@of_decide_eq_true
theorem dN {B:Nat} {a:World} (h:Below B a w) (n:Nat):Below B a (w.drewN n):=h.trans ⟨rfl,rfl,rfl,Jr _,λ_ _=>rfl⟩
theorem bZ:Below n w w:=Ji n w
theorem sC {P:Program} {f:FuncId} {a:Array Value}  {r:Ending} {Q:Ending→World→Prop} (h:Calls P f a w λe w'=>e=r∧w'=w) (q:Q r w):Calls P f a w Q:=h.mono (by rintro e w' ⟨rfl,b⟩;subst b;exact q)
open Go.RowKit
theorem hI {p:Prop}(h:p):Hid p:=h
def zT (w:World)(a:Option Addr)(n:Nat)(f:Nat->Int):Prop :=
 ∀ k,k<n->∃ b off,a=some ⟨b,off,none⟩/\w.cell? ⟨b,off+k,none⟩=some (int i64 (f k))
theorem zT.below {a:Option Addr}{f:Nat->Int}(h:zT w a n f)(d:Below w.heap.size w w'):zT w' a n f:=by
 intro k g;obtain⟨b,off,e,c⟩:=h k g;exact⟨b,off,e,(d.cell (Ja w _ c)).trans c⟩
theorem zT.of_row {f:Nat->Int}(h:w.rowIs g t n (λk=>int i64 (f k))):zT w (some ⟨g,0,none⟩) n f:=by
 intro k hk;exact⟨g,0,rfl,by rw[Nat.zero_add];exact h.cell (by omega)⟩
theorem zk (h:Below w.heap.size w w')(o:Obj):Below w.heap.size w (w'.alloc o):=h.alloc h.size o
theorem ze {a:World}(h:Below w.heap.size w w')(k:Below w'.heap.size w' a):Below w.heap.size w a:=h.trans (k.mono h.size)
/-! A block that is known ZY. -/
theorem za {cs:Array Value}(h:w.heap[b]?=some (.cells cs t (0,0)))(i:Nat)(v:Value)(a:cs[i]?=some v):w.cell? ⟨b,i,none⟩=some v:=by
 simp[World.cell?,h,a]
theorem zg {cs:Array Value}(h:w.heap[b]?=some (.cells cs t (0,0)))(i:Nat):w.frozen? ⟨b,i,none⟩=false:=by
 simp[World.frozen?,h]
theorem zM (h:w.heap[b]?=some o):b<w.heap.size:=(Array.getElem?_eq_some_iff.1 h).1
theorem zm {cs:Array Value}(h:w.heap[b]?=some (.cells cs t (0,0)))(i:Nat)(v:Value):(w.setCell ⟨b,i,none⟩ v).heap[b]?=some (.cells (cs.setIfInBounds i v) t (0,0)):=by
 simp[World.setCell,Array.getElem?_modify,h]
theorem zD {b':Nat}(h:w.heap[b]?=some o)(i:Nat)(v:Value)(a:b≠b'):(w.setCell ⟨b',i,none⟩ v).heap[b]?=some o :=
 (Below.heap_setCell w ⟨b',i,none⟩ v b a).trans h
theorem zd (h:w.heap[b]?=some o)(a:Obj):(w.alloc a).heap[b]?=some o:=(Below.heap_alloc w a b (zM h)).trans h
theorem zb (h:w.heap[b]?=some o)(a:Below w.heap.size w w'):w'.heap[b]?=some o:=(a.block b (zM h)).trans h
theorem qo (h:w.rowIs b t n f)(a:Below w.heap.size w w'):w'.rowIs b t n f:=h.of_block (a.block _ h.lt)
def zbJ {α:Type}(k:Nat)(f:Nat->α)(z:α)(i:Nat):α:=if i<k then f i else z
theorem qr (f:Nat->α)(z:α)(h:i<k):zbJ k f z i=f i:=Jf h
theorem zbT (f:Nat->α)(z:α)(h:¬ i<k):zbJ k f z i=z:=Je h
theorem QB (f:Nat->α)(z:α)(k j:Nat)(h:j≠k):zbJ (k+1) f z j=zbJ k f z j:=by
 unfold zbJ;by_cases h2:j<k
 ·rw[Jf h2,Jf (by omega)]
 ·rw[Je h2,Je (by omega)]
theorem ZP {c:List Value}(h:w.ownsRow base e size (.slice (some ⟨g,0,none⟩) n n) n c):w.rowIs g e (n*size) (λj=>c.getD j (.bool false)):=by
 rcases h.2 with⟨b,_⟩|⟨g',f,a,b,_,k,_,_,o,p⟩
 ·cases b
 ·simp only[Value.slice.injEq,Option.some.injEq,Addr.mk.injEq,and_true,true_and] at b
  obtain⟨rfl,rfl⟩:=b;refine⟨a,k,o,λi l=>?_⟩
  have d:a.toList[i]?=c[i]?:=by rw[← p,List.getElem?_take,Jf l]
  have m:i<a.size:=by omega
  simp only[Array.getElem?_toList] at d
  show _=some (c.getD i _)
  rw[List.getD_eq_getElem?_getD,← d,Array.getElem?_eq_getElem m]
  rfl
theorem zjB {c:World}{row:Option Nat}(d:w.grownBy c row)(h:w.heap[b]?=some o)(a:some b≠row):c.heap[b]?=some o:=(d.block b (zM h) a).trans h
def zS (F:Nat->Int)(n:Nat):List Value:=(List.range n).map (λk=>int i64 (F k))
theorem zfx (F:Nat->Int)(k:Nat):zS F (k+1)=zS F k++[int i64 (F k)]:=by
 unfold zS;rw[List.range_succ,List.map_append];rfl
theorem zcD (F:Nat->Int)(n j:Nat)(u:Value)(h:(zS F n)[j]?=some u):j<n/\u=int i64 (F j):=by
 unfold zS at h;rw[List.getElem?_map] at h
 by_cases hj:j<n
 ·rw[List.getElem?_range hj] at h;simp at h;exact⟨hj,h.symm⟩
 ·rw[List.getElem?_eq_none (by simpa using hj)] at h;cases h
theorem Qd (F:Nat->Int)(n:Nat):∀ u ∈ zS F n,u.oneCell'=true:=by
 intro u a;unfold zS at a;simp only[List.mem_map] at a;obtain⟨j,_,rfl⟩:=a
 rfl
theorem Zn (F:Nat->Int)(n:Nat):(zS F n).length=n:=by simp[zS]
theorem zu {a:Nat}(h:w.ownsRow base e size v n d)(i:a<=base):w.ownsRow a e size v n d:=by
 refine⟨h.1,?_⟩
 rcases h.2 with f|⟨g,b,c,j,h1,rest⟩
 ·exact .inl f
 ·exact .inr ⟨g,b,c,j,Jp i h1,rest⟩
theorem ZW {b:List Value}(h:w.ownsRow base e size v n b){a:Addr}(c:a.block<base)(u:Value):(w.setCell a u).ownsRow base e size v n b:=ownsRow_setCell_below h c u
theorem zp (h:w.ownsRow base e size v n d):∃ ao c,v=.slice ao n c/\n<=c/\c<=maxLen/\(ao=none->n=0/\c=0):=by
 rcases h.2 with⟨rfl,rfl⟩|⟨g,a,b,rfl,hb,hg,h1,h2,_⟩
 ·exact⟨_,0,rfl,Jr _,Jq _,λ_=>⟨rfl,rfl⟩⟩
 ·exact⟨_,a,rfl,h1,h2,λh=>by cases h⟩
theorem zbo {c:Nat}{a:Option Addr}{F:Nat->Int}(h:w.ownsRow base e 1 (.slice a n c) n (zS F n)):zT w a n F:=by
 intro k i
 rcases h.2 with⟨_,h0⟩|⟨g,d,f,b,hb,hg,h1,h2,_⟩
 ·omega
 ·simp only[Value.slice.injEq,true_and] at b
  obtain⟨rfl,rfl⟩:=b;refine⟨g,0,rfl,?_⟩;rw[Nat.zero_add,h.cellAt k (by omega)]
  unfold zS;rw[List.getElem?_map,List.getElem?_range i];rfl
theorem fill_step (f:Nat->α)(z:α)(k j:Nat):(if j=k then f k else if j<k then f j else z)=if j<k+1 then f j else z:=by
 by_cases h:j=k
 ·subst h;simp
 ·by_cases h2:j<k
  ·rw[Je h,Jf h2,Jf (by omega)]
  ·rw[Je h,Je h2,Je (by omega)]
theorem ce3 (h:w.heap[b]?=some (.cells (v0 :: v1 :: v2 :: r).toArray t (0,0))):w.cell? ⟨b,0,none⟩=some v0/\w.cell? ⟨b,1,none⟩=some v1/\w.cell? ⟨b,2,none⟩=some v2:=⟨za h 0 _ rfl,za h 1 _ rfl,za h 2 _ rfl⟩
theorem fe3 {c:Array Value}(h:w.heap[b]?=some (.cells c t (0,0))):w.frozen? ⟨b,0,none⟩=false/\w.frozen? ⟨b,1,none⟩=false/\w.frozen? ⟨b,2,none⟩=false:=⟨zg h 0,zg h 1,zg h 2⟩
theorem ce4 (h:w.heap[b]?=some (.cells (v0 :: v1 :: v2 :: v3 :: r).toArray t (0,0))):w.cell? ⟨b,0,none⟩=some v0/\w.cell? ⟨b,1,none⟩=some v1/\w.cell? ⟨b,2,none⟩=some v2/\w.cell? ⟨b,3,none⟩=some v3:=⟨za h 0 _ rfl,za h 1 _ rfl,za h 2 _ rfl,za h 3 _ rfl⟩
theorem fe4 {c:Array Value}(h:w.heap[b]?=some (.cells c t (0,0))):w.frozen? ⟨b,0,none⟩=false/\w.frozen? ⟨b,1,none⟩=false/\w.frozen? ⟨b,2,none⟩=false/\w.frozen? ⟨b,3,none⟩=false:=⟨zg h 0,zg h 1,zg h 2,zg h 3⟩
theorem ce5 (h:w.heap[b]?=some (.cells (v0 :: v1 :: v2 :: v3 :: v4 :: r).toArray t (0,0))):w.cell? ⟨b,0,none⟩=some v0/\w.cell? ⟨b,1,none⟩=some v1/\w.cell? ⟨b,2,none⟩=some v2/\w.cell? ⟨b,3,none⟩=some v3/\w.cell? ⟨b,4,none⟩=some v4:=⟨za h 0 _ rfl,za h 1 _ rfl,za h 2 _ rfl,za h 3 _ rfl,za h 4 _ rfl⟩
theorem fe5 {c:Array Value}(h:w.heap[b]?=some (.cells c t (0,0))):w.frozen? ⟨b,0,none⟩=false/\w.frozen? ⟨b,1,none⟩=false/\w.frozen? ⟨b,2,none⟩=false/\w.frozen? ⟨b,3,none⟩=false/\w.frozen? ⟨b,4,none⟩=false:=⟨zg h 0,zg h 1,zg h 2,zg h 3,zg h 4⟩
theorem ce6 (h:w.heap[b]?=some (.cells (v0 :: v1 :: v2 :: v3 :: v4 :: v5 :: r).toArray t (0,0))):w.cell? ⟨b,0,none⟩=some v0/\w.cell? ⟨b,1,none⟩=some v1/\w.cell? ⟨b,2,none⟩=some v2/\w.cell? ⟨b,3,none⟩=some v3/\w.cell? ⟨b,4,none⟩=some v4/\w.cell? ⟨b,5,none⟩=some v5:=⟨za h 0 _ rfl,za h 1 _ rfl,za h 2 _ rfl,za h 3 _ rfl,za h 4 _ rfl,za h 5 _ rfl⟩
theorem fe6 {c:Array Value}(h:w.heap[b]?=some (.cells c t (0,0))):w.frozen? ⟨b,0,none⟩=false/\w.frozen? ⟨b,1,none⟩=false/\w.frozen? ⟨b,2,none⟩=false/\w.frozen? ⟨b,3,none⟩=false/\w.frozen? ⟨b,4,none⟩=false/\w.frozen? ⟨b,5,none⟩=false:=⟨zg h 0,zg h 1,zg h 2,zg h 3,zg h 4,zg h 5⟩
theorem ce7 (h:w.heap[b]?=some (.cells (v0 :: v1 :: v2 :: v3 :: v4 :: v5 :: v6 :: r).toArray t (0,0))):w.cell? ⟨b,0,none⟩=some v0/\w.cell? ⟨b,1,none⟩=some v1/\w.cell? ⟨b,2,none⟩=some v2/\w.cell? ⟨b,3,none⟩=some v3/\w.cell? ⟨b,4,none⟩=some v4/\w.cell? ⟨b,5,none⟩=some v5/\w.cell? ⟨b,6,none⟩=some v6:=⟨za h 0 _ rfl,za h 1 _ rfl,za h 2 _ rfl,za h 3 _ rfl,za h 4 _ rfl,za h 5 _ rfl,za h 6 _ rfl⟩
theorem fe7 {c:Array Value}(h:w.heap[b]?=some (.cells c t (0,0))):w.frozen? ⟨b,0,none⟩=false/\w.frozen? ⟨b,1,none⟩=false/\w.frozen? ⟨b,2,none⟩=false/\w.frozen? ⟨b,3,none⟩=false/\w.frozen? ⟨b,4,none⟩=false/\w.frozen? ⟨b,5,none⟩=false/\w.frozen? ⟨b,6,none⟩=false:=⟨zg h 0,zg h 1,zg h 2,zg h 3,zg h 4,zg h 5,zg h 6⟩
theorem ce8 (h:w.heap[b]?=some (.cells (v0 :: v1 :: v2 :: v3 :: v4 :: v5 :: v6 :: v7 :: r).toArray t (0,0))):w.cell? ⟨b,0,none⟩=some v0/\w.cell? ⟨b,1,none⟩=some v1/\w.cell? ⟨b,2,none⟩=some v2/\w.cell? ⟨b,3,none⟩=some v3/\w.cell? ⟨b,4,none⟩=some v4/\w.cell? ⟨b,5,none⟩=some v5/\w.cell? ⟨b,6,none⟩=some v6/\w.cell? ⟨b,7,none⟩=some v7:=⟨za h 0 _ rfl,za h 1 _ rfl,za h 2 _ rfl,za h 3 _ rfl,za h 4 _ rfl,za h 5 _ rfl,za h 6 _ rfl,za h 7 _ rfl⟩
theorem fe8 {c:Array Value}(h:w.heap[b]?=some (.cells c t (0,0))):w.frozen? ⟨b,0,none⟩=false/\w.frozen? ⟨b,1,none⟩=false/\w.frozen? ⟨b,2,none⟩=false/\w.frozen? ⟨b,3,none⟩=false/\w.frozen? ⟨b,4,none⟩=false/\w.frozen? ⟨b,5,none⟩=false/\w.frozen? ⟨b,6,none⟩=false/\w.frozen? ⟨b,7,none⟩=false:=⟨zg h 0,zg h 1,zg h 2,zg h 3,zg h 4,zg h 5,zg h 6,zg h 7⟩
theorem ce9 (h:w.heap[b]?=some (.cells (v0 :: v1 :: v2 :: v3 :: v4 :: v5 :: v6 :: v7 :: a :: r).toArray t (0,0))):w.cell? ⟨b,0,none⟩=some v0/\w.cell? ⟨b,1,none⟩=some v1/\w.cell? ⟨b,2,none⟩=some v2/\w.cell? ⟨b,3,none⟩=some v3/\w.cell? ⟨b,4,none⟩=some v4/\w.cell? ⟨b,5,none⟩=some v5/\w.cell? ⟨b,6,none⟩=some v6/\w.cell? ⟨b,7,none⟩=some v7/\w.cell? ⟨b,8,none⟩=some a:=⟨za h 0 _ rfl,za h 1 _ rfl,za h 2 _ rfl,za h 3 _ rfl,za h 4 _ rfl,za h 5 _ rfl,za h 6 _ rfl,za h 7 _ rfl,za h 8 _ rfl⟩
theorem fe9 {c:Array Value}(h:w.heap[b]?=some (.cells c t (0,0))):w.frozen? ⟨b,0,none⟩=false/\w.frozen? ⟨b,1,none⟩=false/\w.frozen? ⟨b,2,none⟩=false/\w.frozen? ⟨b,3,none⟩=false/\w.frozen? ⟨b,4,none⟩=false/\w.frozen? ⟨b,5,none⟩=false/\w.frozen? ⟨b,6,none⟩=false/\w.frozen? ⟨b,7,none⟩=false/\w.frozen? ⟨b,8,none⟩=false:=⟨zg h 0,zg h 1,zg h 2,zg h 3,zg h 4,zg h 5,zg h 6,zg h 7,zg h 8⟩
theorem ce10 (h:w.heap[b]?=some (.cells (v0 :: v1 :: v2 :: v3 :: v4 :: v5 :: v6 :: v7 :: a :: c :: r).toArray t (0,0))):w.cell? ⟨b,0,none⟩=some v0/\w.cell? ⟨b,1,none⟩=some v1/\w.cell? ⟨b,2,none⟩=some v2/\w.cell? ⟨b,3,none⟩=some v3/\w.cell? ⟨b,4,none⟩=some v4/\w.cell? ⟨b,5,none⟩=some v5/\w.cell? ⟨b,6,none⟩=some v6/\w.cell? ⟨b,7,none⟩=some v7/\w.cell? ⟨b,8,none⟩=some a/\w.cell? ⟨b,9,none⟩=some c:=⟨za h 0 _ rfl,za h 1 _ rfl,za h 2 _ rfl,za h 3 _ rfl,za h 4 _ rfl,za h 5 _ rfl,za h 6 _ rfl,za h 7 _ rfl,za h 8 _ rfl,za h 9 _ rfl⟩
theorem fe10 {c:Array Value}(h:w.heap[b]?=some (.cells c t (0,0))):w.frozen? ⟨b,0,none⟩=false/\w.frozen? ⟨b,1,none⟩=false/\w.frozen? ⟨b,2,none⟩=false/\w.frozen? ⟨b,3,none⟩=false/\w.frozen? ⟨b,4,none⟩=false/\w.frozen? ⟨b,5,none⟩=false/\w.frozen? ⟨b,6,none⟩=false/\w.frozen? ⟨b,7,none⟩=false/\w.frozen? ⟨b,8,none⟩=false/\w.frozen? ⟨b,9,none⟩=false:=⟨zg h 0,zg h 1,zg h 2,zg h 3,zg h 4,zg h 5,zg h 6,zg h 7,zg h 8,zg h 9⟩
theorem ce11 {d:Value}(h:w.heap[b]?=some (.cells (v0 :: v1 :: v2 :: v3 :: v4 :: v5 :: v6 :: v7 :: c :: d :: a :: r).toArray t (0,0))):w.cell? ⟨b,0,none⟩=some v0/\w.cell? ⟨b,1,none⟩=some v1/\w.cell? ⟨b,2,none⟩=some v2/\w.cell? ⟨b,3,none⟩=some v3/\w.cell? ⟨b,4,none⟩=some v4/\w.cell? ⟨b,5,none⟩=some v5/\w.cell? ⟨b,6,none⟩=some v6/\w.cell? ⟨b,7,none⟩=some v7/\w.cell? ⟨b,8,none⟩=some c/\w.cell? ⟨b,9,none⟩=some d/\w.cell? ⟨b,10,none⟩=some a:=⟨za h 0 _ rfl,za h 1 _ rfl,za h 2 _ rfl,za h 3 _ rfl,za h 4 _ rfl,za h 5 _ rfl,za h 6 _ rfl,za h 7 _ rfl,za h 8 _ rfl,za h 9 _ rfl,za h 10 _ rfl⟩
theorem fe11 {c:Array Value}(h:w.heap[b]?=some (.cells c t (0,0))):w.frozen? ⟨b,0,none⟩=false/\w.frozen? ⟨b,1,none⟩=false/\w.frozen? ⟨b,2,none⟩=false/\w.frozen? ⟨b,3,none⟩=false/\w.frozen? ⟨b,4,none⟩=false/\w.frozen? ⟨b,5,none⟩=false/\w.frozen? ⟨b,6,none⟩=false/\w.frozen? ⟨b,7,none⟩=false/\w.frozen? ⟨b,8,none⟩=false/\w.frozen? ⟨b,9,none⟩=false/\w.frozen? ⟨b,10,none⟩=false:=⟨zg h 0,zg h 1,zg h 2,zg h 3,zg h 4,zg h 5,zg h 6,zg h 7,zg h 8,zg h 9,zg h 10⟩
theorem zeW {d e:Value}(h:w.heap[b]?=some (.cells (v0 :: v1 :: v2 :: v3 :: v4 :: v5 :: v6 :: v7 :: d :: e :: a :: c :: r).toArray t (0,0))):w.cell? ⟨b,0,none⟩=some v0/\w.cell? ⟨b,1,none⟩=some v1/\w.cell? ⟨b,2,none⟩=some v2/\w.cell? ⟨b,3,none⟩=some v3/\w.cell? ⟨b,4,none⟩=some v4/\w.cell? ⟨b,5,none⟩=some v5/\w.cell? ⟨b,6,none⟩=some v6/\w.cell? ⟨b,7,none⟩=some v7/\w.cell? ⟨b,8,none⟩=some d/\w.cell? ⟨b,9,none⟩=some e/\w.cell? ⟨b,10,none⟩=some a/\w.cell? ⟨b,11,none⟩=some c:=⟨za h 0 _ rfl,za h 1 _ rfl,za h 2 _ rfl,za h 3 _ rfl,za h 4 _ rfl,za h 5 _ rfl,za h 6 _ rfl,za h 7 _ rfl,za h 8 _ rfl,za h 9 _ rfl,za h 10 _ rfl,za h 11 _ rfl⟩
theorem fe12 {c:Array Value}(h:w.heap[b]?=some (.cells c t (0,0))):w.frozen? ⟨b,0,none⟩=false/\w.frozen? ⟨b,1,none⟩=false/\w.frozen? ⟨b,2,none⟩=false/\w.frozen? ⟨b,3,none⟩=false/\w.frozen? ⟨b,4,none⟩=false/\w.frozen? ⟨b,5,none⟩=false/\w.frozen? ⟨b,6,none⟩=false/\w.frozen? ⟨b,7,none⟩=false/\w.frozen? ⟨b,8,none⟩=false/\w.frozen? ⟨b,9,none⟩=false/\w.frozen? ⟨b,10,none⟩=false/\w.frozen? ⟨b,11,none⟩=false:=⟨zg h 0,zg h 1,zg h 2,zg h 3,zg h 4,zg h 5,zg h 6,zg h 7,zg h 8,zg h 9,zg h 10,zg h 11⟩
theorem zeX {e f d:Value}(h:w.heap[b]?=some (.cells (v0 :: v1 :: v2 :: v3 :: v4 :: v5 :: v6 :: v7 :: e :: f :: a :: c :: d :: r).toArray t (0,0))):w.cell? ⟨b,0,none⟩=some v0/\w.cell? ⟨b,1,none⟩=some v1/\w.cell? ⟨b,2,none⟩=some v2/\w.cell? ⟨b,3,none⟩=some v3/\w.cell? ⟨b,4,none⟩=some v4/\w.cell? ⟨b,5,none⟩=some v5/\w.cell? ⟨b,6,none⟩=some v6/\w.cell? ⟨b,7,none⟩=some v7/\w.cell? ⟨b,8,none⟩=some e/\w.cell? ⟨b,9,none⟩=some f/\w.cell? ⟨b,10,none⟩=some a/\w.cell? ⟨b,11,none⟩=some c/\w.cell? ⟨b,12,none⟩=some d:=⟨za h 0 _ rfl,za h 1 _ rfl,za h 2 _ rfl,za h 3 _ rfl,za h 4 _ rfl,za h 5 _ rfl,za h 6 _ rfl,za h 7 _ rfl,za h 8 _ rfl,za h 9 _ rfl,za h 10 _ rfl,za h 11 _ rfl,za h 12 _ rfl⟩
theorem fe13 {c:Array Value}(h:w.heap[b]?=some (.cells c t (0,0))):w.frozen? ⟨b,0,none⟩=false/\w.frozen? ⟨b,1,none⟩=false/\w.frozen? ⟨b,2,none⟩=false/\w.frozen? ⟨b,3,none⟩=false/\w.frozen? ⟨b,4,none⟩=false/\w.frozen? ⟨b,5,none⟩=false/\w.frozen? ⟨b,6,none⟩=false/\w.frozen? ⟨b,7,none⟩=false/\w.frozen? ⟨b,8,none⟩=false/\w.frozen? ⟨b,9,none⟩=false/\w.frozen? ⟨b,10,none⟩=false/\w.frozen? ⟨b,11,none⟩=false/\w.frozen? ⟨b,12,none⟩=false:=⟨zg h 0,zg h 1,zg h 2,zg h 3,zg h 4,zg h 5,zg h 6,zg h 7,zg h 8,zg h 9,zg h 10,zg h 11,zg h 12⟩
theorem sB {α:Type _}(l:List α)(i:Nat)(a:α):l.toArray.setIfInBounds i a=(l.set i a).toArray:=List.setIfInBounds_toArray ..
theorem sZ {α:Type _}(x a:α)(l:List α):(x :: l).set 0 a=a :: l:=rfl
theorem sS {α:Type _}(x a:α)(l:List α)(n:Nat):(x :: l).set (n+1) a=x :: l.set n a:=rfl
end
section
open Go.RowKit
variable{w w':World}{g t n k N e lo b:Nat}{f:Nat->Value}{v0 v1 v2 v3 v4 v5 v6 v7:Value}
structure zH where
 n:Nat
 A:Nat->Int
 B:Nat->Int
def zG (w:World)(a:Option Addr)(p:zH):Prop :=
 ∀ k,k<p.n->∃ b off,a=some ⟨b,off,none⟩/\w.cell? ⟨b,off+k*2,none⟩=some (int i64 (p.A k))/\w.cell? ⟨b,off+k*2+1,none⟩=some (int i64 (p.B k))
theorem zG.below {c:Option Addr}{p:zH}(h:zG w c p)(d:Below w.heap.size w w'):zG w' c p:=by
 intro k f;obtain⟨b,off,e,h1,h2⟩:=h k f;have a:b<w.heap.size:=Ja w _ h1;exact⟨b,off,e,(d.cell a).trans h1,(d.cell a).trans h2⟩
def qn (p:zH)(j:Nat):Value:=if j % 2=0 then int i64 (p.A (j / 2)) else int i64 (p.B (j / 2))
theorem zeY (p:zH)(k:Nat):qn p (k*2)=int i64 (p.A k):=by
 unfold qn;rw[Jf (by omega),show k*2 / 2=k by omega]
theorem zeZ (p:zH)(k:Nat):qn p (k*2+1)=int i64 (p.B k):=by
 unfold qn;rw[Je (by omega),show(k*2+1) / 2=k by omega]
theorem zG.of_row {p:zH}(h:w.rowIs g t (p.n*2) (qn p)):zG w (some ⟨g,0,none⟩) p:=by
 intro k hk;refine⟨g,0,rfl,?_,?_⟩
 ·rw[Nat.zero_add,h.cell (by omega),zeY]
 ·rw[Nat.zero_add,h.cell (by omega),zeZ]
theorem zhK (n:Nat)(j:Nat)(a:j<n*2):(madeCells (Value.agg #[int i64 0,int i64 0]).cells (n*2)).toList.getD j (.bool false)=qn ⟨n,λ_=>0,λ_=>0⟩ j:=by
 have b:(Value.agg #[_,_]).cells=#[int i64 0,int i64 0]:=rfl;rw[b];simp only[madeCells,Array.toList_map,List.getD_eq_getElem?_getD,List.getElem?_map,Array.toList_range,List.getElem?_range a,Option.map_some,Option.getD_some];unfold qn;have:j % 2=0∨j % 2=1:=by omega
 rcases this with h|h <;> simp[h]
theorem zmx {p p':zH}(h:w.rowIs g t n (qn p))(b:∀ i,i≠k->p'.A i=p.A i)(c:∀ i,i≠k->p'.B i=p.B i) :
  ((w.setCell ⟨g,k*2,none⟩ (int i64 (p'.A k))).setCell ⟨g,k*2+1,none⟩ (int i64 (p'.B k))).rowIs g t n (qn p'):=by
 refine((h.set _ _).set _ _).congr λj _=>?_
 by_cases h1:j=k*2+1
 ·subst h1;rw[Jf rfl,zeZ]
 ·rw[Je h1]
  by_cases h0:j=k*2
  ·subst h0;rw[Jf rfl,zeY]
  ·rw[Je h0]
   have a:j / 2≠k:=by omega
   unfold qn;rw[b _ a,c _ a]
def zde (k:Nat)(p:zH):zH:=⟨p.n,zbJ k p.A 0,zbJ k p.B 0⟩
def qj (a:Option Addr)(n c:Nat):Prop:=n<=c/\c<=9223372036854775807/\(a=none->n=0/\c=0)
structure Zj where
 id:Int
 fr:ByteArray
 dst:ByteArray
 dep:Int
 arr:Int
 la:zH
 ca:zH
 most:Int
def Zj.zero:Zj:=⟨0,⟨#[]⟩,⟨#[]⟩,0,0,⟨0,λ_=>0,λ_=>0⟩,⟨0,λ_=>0,λ_=>0⟩,0⟩
instance:Inhabited Zj:=⟨Zj.zero⟩
def qB (w:World)(a:Option Addr)(N:Nat)(S:Nat->Zj):Prop :=
 ∀ k,k<N->∃ b off la lc ca cc,a=some ⟨b,off,none⟩/\w.cell? ⟨b,off+k*8,none⟩=some (int i64 (S k).id)/\w.cell? ⟨b,off+k*8+1,none⟩=some (.string (S k).fr) /\
  w.cell? ⟨b,off+k*8+2,none⟩=some (.string (S k).dst)/\w.cell? ⟨b,off+k*8+3,none⟩=some (int i64 (S k).dep)/\w.cell? ⟨b,off+k*8+4,none⟩=some (int i64 (S k).arr) /\
  w.cell? ⟨b,off+k*8+5,none⟩=some (.slice la (S k).la.n lc)/\w.cell? ⟨b,off+k*8+6,none⟩=some (.slice ca (S k).ca.n cc)/\w.cell? ⟨b,off+k*8+7,none⟩=some (int i64 (S k).most) /\
  zG w la (S k).la/\zG w ca (S k).ca/\qj la (S k).la.n lc/\qj ca (S k).ca.n cc
theorem qB.below {d:Option Addr}{S:Nat->Zj}(h:qB w d N S)(c:Below w.heap.size w w'):qB w' d N S:=by
 intro k p;obtain⟨b,off,la,q,ca,f,e,g,h1,h2,h3,i,j,l,m,h8,h9,n,o⟩:=h k p;have a:b<w.heap.size:=Ja w _ h1;exact⟨b,off,la,q,ca,f,e,(c.cell a).trans g,(c.cell a).trans h1,(c.cell a).trans h2,(c.cell a).trans h3,(c.cell a).trans i,(c.cell a).trans j,(c.cell a).trans l,(c.cell a).trans m,h8.below c,h9.below c,n,o⟩
def qz (S:Nat->Zj)(a cs:Nat->Value)(j:Nat):Value :=
 if j % 8=0 then int i64 (S (j / 8)).id else if j % 8=1 then .string (S (j / 8)).fr else if j % 8=2 then .string (S (j / 8)).dst else if j % 8=3 then int i64 (S (j / 8)).dep
 else if j % 8=4 then int i64 (S (j / 8)).arr else if j % 8=5 then a (j / 8) else if j % 8=6 then cs (j / 8) else int i64 (S (j / 8)).most
theorem zcd (S:Nat->Zj)(a cs:Nat->Value)(k:Nat):qz S a cs (k*8)=int i64 (S k).id:=by
 unfold qz;rw[Jf (by omega),show k*8 / 8=k by omega]
theorem zce (S:Nat->Zj)(a cs:Nat->Value)(k:Nat):qz S a cs (k*8+1)=.string (S k).fr:=by
 unfold qz;rw[Je (by omega),Jf (by omega),show(k*8+1) / 8=k by omega]
theorem zcf (S:Nat->Zj)(a cs:Nat->Value)(k:Nat):qz S a cs (k*8+2)=.string (S k).dst:=by
 unfold qz;rw[Je (by omega),Je (by omega),Jf (by omega),show(k*8+2) / 8=k by omega]
theorem zcg (S:Nat->Zj)(a cs:Nat->Value)(k:Nat):qz S a cs (k*8+3)=int i64 (S k).dep:=by
 unfold qz;rw[Je (by omega),Je (by omega),Je (by omega),Jf (by omega),show(k*8+3) / 8=k by omega]
theorem zch (S:Nat->Zj)(a cs:Nat->Value)(k:Nat):qz S a cs (k*8+4)=int i64 (S k).arr:=by
 unfold qz;rw[Je (by omega),Je (by omega),Je (by omega),Je (by omega),Jf (by omega),show(k*8+4) / 8=k by omega]
theorem Q2 (S:Nat->Zj)(a cs:Nat->Value)(k:Nat):qz S a cs (k*8+5)=a k:=by
 unfold qz;rw[Je (by omega),Je (by omega),Je (by omega),Je (by omega),Je (by omega),Jf (by omega),show(k*8+5) / 8=k by omega]
theorem Q4 (S:Nat->Zj)(a cs:Nat->Value)(k:Nat):qz S a cs (k*8+6)=cs k:=by
 unfold qz;rw[Je (by omega),Je (by omega),Je (by omega),Je (by omega),Je (by omega),Je (by omega),Jf (by omega),show(k*8+6) / 8=k by omega]
theorem zci (S:Nat->Zj)(a cs:Nat->Value)(k:Nat):qz S a cs (k*8+7)=int i64 (S k).most:=by
 unfold qz;rw[Je (by omega),Je (by omega),Je (by omega),Je (by omega),Je (by omega),Je (by omega),Je (by omega),show(k*8+7) / 8=k by omega]
theorem zhL (n:Nat)(j:Nat)(a:j<n*8):(madeCells (Value.agg #[int i64 0,.string ⟨#[]⟩,.string ⟨#[]⟩,int i64 0,int i64 0,.slice none 0 0,.slice none 0 0,int i64 0]).cells (n*8)).toList.getD j (.bool false)=qz (λ_=>Zj.zero) (λ_=>.slice none 0 0) (λ_=>.slice none 0 0) j:=by
 have b:(Value.agg #[_,_,_,_,_,_,_,_]).cells=#[int i64 0,.string ⟨#[]⟩,.string ⟨#[]⟩,int i64 0,int i64 0,.slice none 0 0,.slice none 0 0,int i64 0]:=rfl;rw[b];simp only[madeCells,Array.toList_map,List.getD_eq_getElem?_getD,List.getElem?_map,Array.toList_range,List.getElem?_range a,Option.map_some,Option.getD_some];unfold qz;have:j % 8=0∨j % 8=1∨j % 8=2∨j % 8=3∨j % 8=4∨j % 8=5∨j % 8=6∨j % 8=7:=by omega
 rcases this with h|h|h|h|h|h|h|h <;> simp[h,Zj.zero]
def zjz (w:World)(g o:Nat)(v0 v1 v2 v3 v4 v5 v6 v7:Value):World :=
 (((((((w.setCell ⟨g,o,none⟩ v0).setCell ⟨g,o+1,none⟩ v1).setCell ⟨g,o+2,none⟩ v2).setCell ⟨g,o+3,none⟩ v3).setCell ⟨g,o+4,none⟩ v4).setCell ⟨g,o+5,none⟩ v5).setCell ⟨g,o+6,none⟩ v6).setCell ⟨g,o+7,none⟩ v7
theorem zdI {o x:Nat}(h:w.rowIs x t n f)(a:x≠g):(zjz w g o v0 v1 v2 v3 v4 v5 v6 v7).rowIs x t n f:=by
 unfold zjz;exact(((((((h.setOther (by show x≠g;exact a) _).setOther (by show x≠g;exact a) _).setOther (by show x≠g;exact a) _).setOther (by show x≠g;exact a) _).setOther (by show x≠g;exact a) _).setOther (by show x≠g;exact a) _).setOther (by show x≠g;exact a) _).setOther (by show x≠g;exact a) _
theorem zfa {b:World}{o:Nat}(h:Below b.heap.size b w)(a:b.heap.size<=g):Below b.heap.size b (zjz w g o v0 v1 v2 v3 v4 v5 v6 v7):=by
 unfold zjz;exact(((((((h.setCell a _).setCell a _).setCell a _).setCell a _).setCell a _).setCell a _).setCell a _).setCell a _
theorem zmy {u0 u1 u2 u3 u4 u5 u6 u7:Value}(h:w.heap[g]?=some (.cells #[u0,u1,u2,u3,u4,u5,u6,u7] t (0,0))) :
  (zjz w g 0 v0 v1 v2 v3 v4 v5 v6 v7).heap[g]?=some (.cells #[v0,v1,v2,v3,v4,v5,v6,v7] t (0,0)):=by
 unfold zjz;have:=zm (zm (zm (zm (zm (zm (zm (zm h 0 v0) 1 v1) 2 v2) 3 v3) 4 v4) 5 v5) 6 v6) 7 v7
 simpa using this
theorem zmz {S S':Nat->Zj}{b ls' cs cs':Nat->Value}(h:w.rowIs g t n (qz S b cs))
  (e:∀ i,i≠k->S' i=S i) (d:∀ i,i≠k->ls' i=b i) (c:∀ i,i≠k->cs' i=cs i) :
  (zjz w g (k*8) (int i64 (S' k).id) (.string (S' k).fr) (.string (S' k).dst) (int i64 (S' k).dep) (int i64 (S' k).arr) (ls' k) (cs' k) (int i64 (S' k).most)).rowIs g t n (qz S' ls' cs'):=by
 unfold zjz;refine((((((((h.set _ _).set _ _).set _ _).set _ _).set _ _).set _ _).set _ _).set _ _).congr λj _=>?_
 by_cases h7:j=k*8+7
 ·subst h7;rw[Jf rfl,zci]
 rw[Je h7]
 by_cases h6:j=k*8+6
 ·subst h6;rw[Jf rfl,Q4]
 rw[Je h6]
 by_cases h5:j=k*8+5
 ·subst h5;rw[Jf rfl,Q2]
 rw[Je h5]
 by_cases h4:j=k*8+4
 ·subst h4;rw[Jf rfl,zch]
 rw[Je h4]
 by_cases h3:j=k*8+3
 ·subst h3;rw[Jf rfl,zcg]
 rw[Je h3]
 by_cases h2:j=k*8+2
 ·subst h2;rw[Jf rfl,zcf]
 rw[Je h2]
 by_cases h1:j=k*8+1
 ·subst h1;rw[Jf rfl,zce]
 rw[Je h1]
 by_cases h0:j=k*8
 ·subst h0;rw[Jf rfl,zcd]
 rw[Je h0];have a:j / 8≠k:=by omega
 unfold qz;rw[e _ a,d _ a,c _ a]
def ZY (b n:Nat):Value:=.slice (some ⟨b,0,none⟩) n n
def at_ (f:Nat->Nat)(q u:Nat)(i:Nat):Nat:=if i=q then u else f i
theorem zmP (f:Nat->Nat)(q u:Nat):at_ f q u q=u:=Jf rfl
theorem zjC (f:Nat->Nat)(q u i:Nat)(h:i≠q):at_ f q u i=f i:=Je h
structure zak (w:World)(d b a k lo g N:Nat)(S:Nat->Zj)(l c:Nat->Nat):Prop where
 row:w.rowIs g d (N*8) (qz (zbJ k S Zj.zero) (zbJ k (λi=>ZY (l i) (S i).la.n) (.slice none 0 0)) (zbJ k (λi=>ZY (c i) (S i).ca.n) (.slice none 0 0)))
 lo:lo<=g
 lanes:∀ i,i<k->g<l i/\w.rowIs (l i) b ((S i).la.n*2) (qn (S i).la)
 cabins:∀ i,i<k->l i<c i/\w.rowIs (c i) a ((S i).ca.n*2) (qn (S i).ca)
 rise:∀ i j,i<j->j<k->c i<l j
theorem zak.below {f d:Nat}{S:Nat->Zj}{l c:Nat->Nat}(r:zak w f e d k lo g N S l c)(b:Below w.heap.size w w'):zak w' f e d k lo g N S l c :=
 ⟨qo r.row b,r.lo,λi a=>⟨(r.lanes i a).1,qo (r.lanes i a).2 b⟩,λi a=>⟨(r.cabins i a).1,qo (r.cabins i a).2 b⟩,r.rise⟩
theorem zak.sails {j h f:Nat}{S:Nat->Zj}{l c:Nat->Nat}(r:zak w j h f N lo g N S l c)(d:∀ i,i<N->(S i).la.n<=1048576)(b:∀ i,i<N->(S i).ca.n<=1048576):qB w (some ⟨g,0,none⟩) N S:=by
 intro k a;refine⟨g,0,_,_,_,_,rfl,?_,?_,?_,?_,?_,?_,?_,?_,zG.of_row (r.lanes k a).2,zG.of_row (r.cabins k a).2,⟨Jr _,by have:=d k a;omega,by intro e;cases e⟩,⟨Jr _,by have:=b k a;omega,by intro e;cases e⟩⟩
 ·rw[Nat.zero_add,r.row.cell (by omega),zcd,qr _ _ a]
 ·rw[Nat.zero_add,r.row.cell (by omega),zce,qr _ _ a]
 ·rw[Nat.zero_add,r.row.cell (by omega),zcf,qr _ _ a]
 ·rw[Nat.zero_add,r.row.cell (by omega),zcg,qr _ _ a]
 ·rw[Nat.zero_add,r.row.cell (by omega),zch,qr _ _ a]
 ·rw[Nat.zero_add,r.row.cell (by omega),Q2,qr _ _ a];rfl
 ·rw[Nat.zero_add,r.row.cell (by omega),Q4,qr _ _ a];rfl
 ·rw[Nat.zero_add,r.row.cell (by omega),zci,qr _ _ a]
theorem zak.step {s q p:Nat}{S:Nat->Zj}{l c:Nat->Nat}(r:zak w s q p k lo g N S l c){a:Nat}(t:g<a)(n:a<b)
  (f:∀ i,i<k->c i<a) (h:w.rowIs a q ((S k).la.n*2) (qn (S k).la)) (m:w.rowIs b p ((S k).ca.n*2) (qn (S k).ca)) :
  zak (zjz w g (k*8) (int i64 (S k).id) (.string (S k).fr) (.string (S k).dst) (int i64 (S k).dep) (int i64 (S k).arr) (ZY a (S k).la.n) (ZY b (S k).ca.n) (int i64 (S k).most)) s q p (k+1) lo g N S (at_ l k a) (at_ c k b):=by
 refine⟨?_,r.lo,λi d=>?_,λi d=>?_,λi j o hj=>?_⟩
 ·have:=zmz (S':=zbJ _ S _) (ls':=zbJ (k+1) (λi=>ZY (at_ l k a i) (S i).la.n) (.slice _ 0 0)) (cs':=zbJ (k+1) (λi=>ZY (at_ c k b i) (S i).ca.n) (.slice _ 0 0)) r.row (λi e=>QB _ _ _ _ e)
   (λi e=>by unfold zbJ;by_cases d:i<k
           ·rw[Jf d,Jf (by omega)];simp only[zjC _ _ _ _ e]
           ·rw[Je d,Je (by omega)])
   (λi e=>by unfold zbJ;by_cases d:i<k
           ·rw[Jf d,Jf (by omega)];simp only[zjC _ _ _ _ e]
           ·rw[Je d,Je (by omega)])
  rw[qr _ _ (Nat.lt_succ_self k),qr _ _ (Nat.lt_succ_self k),qr _ _ (Nat.lt_succ_self k),zmP,zmP] at this;exact this
 ·by_cases e:i=k
  ·subst e;rw[zmP];exact⟨t,zdI h (by omega)⟩
  ·rw[zjC _ _ _ _ e];have:=r.lanes i (by omega);exact⟨this.1,zdI this.2 (by omega)⟩
 ·by_cases e:i=k
  ·subst e;rw[zmP,zmP];exact⟨n,zdI m (by omega)⟩
  ·rw[zjC _ _ _ _ e,zjC _ _ _ _ e];have h1:=r.lanes i (by omega);have h2:=r.cabins i (by omega);exact⟨h2.1,zdI h2.2 (by omega)⟩
 ·by_cases e:j=k
  ·subst e;rw[zmP,zjC _ _ _ _ (by omega)];exact f i (by omega)
  ·rw[zjC _ _ _ _ e,zjC _ _ _ _ (by omega)];exact r.rise i j o (by omega)
def qX (P:Prop)(e:Ending):Prop:=∃ b:Bool,e=.returned (.bool b)/\(b=true↔P)
theorem zR {P:Prop}(h:P):qX P (.returned (.bool true)):=⟨true,rfl,⟨λ_=>h,λ_=>rfl⟩⟩
theorem zl {P:Prop}(h:¬ P):qX P (.returned (.bool false)):=⟨false,rfl,⟨λe=>(by cases e),λp=>absurd p h⟩⟩
def zll (P:Prop)(c:Value):Prop:=∃ b:Bool,c=.bool b/\(b=false↔P)
theorem QP {P:Prop}(h:¬ P):zll P (.bool true):=⟨true,rfl,⟨λe=>(by cases e),λp=>absurd p h⟩⟩
theorem Q5 {P:Prop}(h:P):zll P (.bool false):=⟨false,rfl,⟨λ_=>h,λ_=>rfl⟩⟩
end
def zoy (s:Zj)(B:Nat):Prop:=s.fr.size<=B/\s.dst.size<=B/\s.la.n<=B/\s.ca.n<=B
def QL (N:Nat)(S:Nat->Zj)(B:Nat):Prop:=∀ i,i<N->zoy (S i) B
theorem Tryz.infoLane:(Tryz.prog.info? 223).map (λi=>(i.zero,i.size,i.bytes))=some (some (.agg #[int i64 0,int i64 0]),2,16):=by kernel_rfl
theorem Tryz.infoCabin:(Tryz.prog.info? 231).map (λi=>(i.zero,i.size,i.bytes))=some (some (.agg #[int i64 0,int i64 0]),2,16):=by kernel_rfl
theorem Tryz.infoSailing:(Tryz.prog.info? 140).map (λi=>(i.zero,i.size,i.bytes))=some (some (.agg #[int i64 0,.string ⟨#[]⟩,.string ⟨#[]⟩,int i64 0,int i64 0,.slice none 0 0,.slice none 0 0,int i64 0]),8,112):=by kernel_rfl
theorem zmQ (a u:Int)(w:World) :
  Calls prog 227 #[.agg #[a,u]] w λe w'=>e=.returned (.agg #[a,u])/\Below w.heap.size w w':=by
 go_enter func227,ntmps227;go_wp2;exact Jj (by simp[results,results227,go_sem]) rfl ⟨rfl,zk (zk (zk bZ _) _) _⟩
theorem zlm (a u:Int)(w:World) :
  Calls prog 255 #[.agg #[a,u],.agg #[a,u]] w λe w'=>e=.returned (.bool true)/\Below w.heap.size w w':=by
 go_enter func255,ntmps255;go_wp2;go_ret;exact⟨rfl,zk (zk bZ _) _⟩
/-- toLaneS: a copy of the pairs in a new row. -/
theorem zln (v:Option Addr)(n r:Nat)(l:zH)(w:World)(z:l.n=n)(hn:n<=1048576)(C:zG w v l) :
  Calls prog 172 #[(v,n,r)] w λe w'=>∃ g,e=.returned (some (g,0),n,n)/\w.heap.size<=g /\
   w'.rowIs g 223 (n*2) (qn l)/\Below w.heap.size w w':=by
 obtain⟨D,B,s,t,u⟩:=info_parts Tryz.infoLane;have A:=hI z;clear z;go_enter func172,ntmps172;go_wp2_with (first|(at_make;refine wpList_make_full _ rfl _ _ 137 rfl _ 223 D _ 2 underlying137 B s t _ _ _ _ n rfl rfl rfl rfl (by rw[u];omega) (by unfold maxLen;omega) (Jr _) ?_;intro w1 f d))
 go_loopw [4] (λi wr=>∃ k,k<=n/\i=int i64 k/\wr.rowIs w.heap.size 223 (n*2) (qn (zde k l))/\Below w.heap.size w wr)
  (λi _=>n - (intOf i).toNat)
 case atStart=>exact⟨0,Jq _,rfl,(ZP f).congr (λj y=>zhK n j y),bZ.grown d (Jr _) (by simp)⟩
 case round =>
  obtain⟨k,hk,rfl,o,c⟩:=hrel;clear f d
  by_cases hlt:k<n
  ·obtain⟨b,off,rfl,h1,h2⟩:=C k (by rw[A.out];omega)
   have x:=Ja w _ h1;have c1:=(c.cell x).trans h1;have c2:=(c.cell (p:=⟨b,_+1,_⟩) x).trans h2;clear h1 h2;go_wp2_with (first|(go_at_call 227;refine(zmQ _ _ _).mono ?_;rintro e w2 ⟨rfl,q⟩;have m:=o.of_block (q.block _ o.lt);have o1:=m.cell (i:=k*2) (by omega);have o2:=m.cell (i:=k*2+1) (by omega);have f1:=m.frozen (k*2);have f2:=m.frozen (k*2+1)))
   go_roundw
   case rel =>
    refine⟨k+1,by omega,by go_num,?_,?_⟩
    ·have:=zmx (p':=zde _ l) m (λi h=>QB _ _ _ _ h) (λi h=>QB _ _ _ _ h)
     simp only[zde,qr _ _ (Nat.lt_succ_self k)] at this;exact this
    ·exact((ze c q).setCell (Jr _) _).setCell (Jr _) _
   case measure=>simp[intOf];omega
  ·go_wp2
   go_ret;exact⟨_,rfl,Jr _,o.congr (λj y=>by unfold qn zde;simp only;rw[qr _ _ (by omega),qr _ _ (by omega)]),c⟩
/-- eqLaneS at two lists that are one. -/
theorem zjD (r bo:Option Addr)(n c1 c2:Nat)(l:zH)(w:World)(v:l.n=n)(hn:n<=1048576)(x:zG w r l)(y:zG w bo l) :
  Calls prog 217 #[(r,n,c1),(bo,n,c2)] w λe w'=>e=.returned (.bool true)/\Below w.heap.size w w':=by
 have q:=hI v;clear v;go_enter func217,ntmps217;go_wp2;go_loopw [5] (λi wr=>∃ k,k<=n/\i=int i64 k/\Below w.heap.size w wr) (λi _=>n - (intOf i).toNat)
 case atStart=>exact⟨0,Jq _,rfl,bZ⟩
 case round =>
  obtain⟨k,hk,rfl,a⟩:=hrel
  by_cases hlt:k<n
  ·obtain⟨b,off,rfl,h1,h2⟩:=x k (by rw[q.out];omega)
   obtain⟨j,f,rfl,m,u⟩:=y k (by rw[q.out];omega)
   have o:=Ja w _ h1;have g:=Ja w _ m;have c1:=(a.cell o).trans h1;have c2:=(a.cell (p:=⟨b,_+1,_⟩) o).trans h2;have s:=(a.cell g).trans m;have t:=(a.cell (p:=⟨j,_+1,_⟩) g).trans u;clear h1 h2 m u;have h:b<wr.heap.size:=Nat.lt_of_lt_of_le o a.size;have d:j<wr.heap.size:=Nat.lt_of_lt_of_le g a.size;have i1:(0:Int)<=(k:Int):=by omega
   have i2:(k:Int)<(n:Int):=by omega
   go_wp2;go_region_held3 (λw'=>w'.cell? (b,off+k*2)=some (l.A k)/\w'.cell? (b,off+k*2+1)=some (l.B k)/\w'.cell? (j,f+k*2)=some (l.A k)/\w'.cell? (j,f+k*2+1)=some (l.B k))
    (first|exact⟨c1,c2,s,t⟩|exact⟨(c.cell h).trans c1,(c.cell h).trans c2,(c.cell d).trans s,(c.cell d).trans t⟩)
    (first|(go_at_call 255;refine(zlm _ _ _).mono ?_;rintro e w2 ⟨rfl,c⟩))
   go_wp2;go_roundw
   case rel=>exact⟨k+1,by omega,by go_num,ze a.drew c⟩
   case measure=>simp[intOf];omega
  ·go_wp2
   go_ret;exact⟨rfl,a⟩
theorem zlo (a:Option Addr)(n c:Nat)(L:Int)(w:World)(h0:0<=L)(hL:L<=1048576)(hn:n<=1000000000000000) :
  Calls prog 141 #[(a,n,c),L] w λe w'=>∃ r:Int,e=.returned r/\(r=-1∨(0<=r/\r<=L/\n<=1048576))/\Below w.heap.size w w':=by
 by_cases h:(n:Int)<=L
 ·go_enter func141,ntmps141
  go_wp2;go_ret;exact⟨_,rfl,.inr ⟨by omega,by omega,by omega⟩,bZ⟩
 ·go_enter func141,ntmps141
  go_wp2;go_ret;exact⟨_,rfl,.inl rfl,bZ⟩
theorem zlp (a u:Int)(w:World) :
  Calls prog 228 #[.agg #[a,u]] w λe w'=>e=.returned (.agg #[a,u])/\Below w.heap.size w w':=by
 go_enter func228,ntmps228;go_wp2;exact Jj (by simp[results,results228,go_sem]) rfl ⟨rfl,zk (zk (zk bZ _) _) _⟩
theorem zjE (a u:Int)(w:World) :
  Calls prog 256 #[.agg #[a,u],.agg #[a,u]] w λe w'=>e=.returned (.bool true)/\Below w.heap.size w w':=by
 go_enter func256,ntmps256;go_wp2;go_ret;exact⟨rfl,zk (zk bZ _) _⟩
/-- toCabinS: a copy of the pairs in a new row. -/
theorem zjF (v:Option Addr)(n r:Nat)(l:zH)(w:World)(z:l.n=n)(hn:n<=1048576)(C:zG w v l) :
  Calls prog 173 #[(v,n,r)] w λe w'=>∃ g,e=.returned (some (g,0),n,n)/\w.heap.size<=g /\
   w'.rowIs g 231 (n*2) (qn l)/\Below w.heap.size w w':=by
 obtain⟨D,B,s,t,u⟩:=info_parts Tryz.infoCabin;have A:=hI z;clear z;go_enter func173,ntmps173;go_wp2_with (first|(at_make;refine wpList_make_full _ rfl _ _ 138 rfl _ 231 D _ 2 underlying138 B s t _ _ _ _ n rfl rfl rfl rfl (by rw[u];omega) (by unfold maxLen;omega) (Jr _) ?_;intro w1 f d))
 go_loopw [4] (λi wr=>∃ k,k<=n/\i=int i64 k/\wr.rowIs w.heap.size 231 (n*2) (qn (zde k l))/\Below w.heap.size w wr)
  (λi _=>n - (intOf i).toNat)
 case atStart=>exact⟨0,Jq _,rfl,(ZP f).congr (λj y=>zhK n j y),bZ.grown d (Jr _) (by simp)⟩
 case round =>
  obtain⟨k,hk,rfl,o,c⟩:=hrel;clear f d
  by_cases hlt:k<n
  ·obtain⟨b,off,rfl,h1,h2⟩:=C k (by rw[A.out];omega)
   have x:=Ja w _ h1;have c1:=(c.cell x).trans h1;have c2:=(c.cell (p:=⟨b,_+1,_⟩) x).trans h2;clear h1 h2;go_wp2_with (first|(go_at_call 228;refine(zlp _ _ _).mono ?_;rintro e w2 ⟨rfl,q⟩;have m:=o.of_block (q.block _ o.lt);have o1:=m.cell (i:=k*2) (by omega);have o2:=m.cell (i:=k*2+1) (by omega);have f1:=m.frozen (k*2);have f2:=m.frozen (k*2+1)))
   go_roundw
   case rel =>
    refine⟨k+1,by omega,by go_num,?_,?_⟩
    ·have:=zmx (p':=zde _ l) m (λi h=>QB _ _ _ _ h) (λi h=>QB _ _ _ _ h)
     simp only[zde,qr _ _ (Nat.lt_succ_self k)] at this;exact this
    ·exact((ze c q).setCell (Jr _) _).setCell (Jr _) _
   case measure=>simp[intOf];omega
  ·go_wp2
   go_ret;exact⟨_,rfl,Jr _,o.congr (λj y=>by unfold qn zde;simp only;rw[qr _ _ (by omega),qr _ _ (by omega)]),c⟩
/-- eqCabinS at two lists that are one. -/
theorem zik (r bo:Option Addr)(n c1 c2:Nat)(l:zH)(w:World)(v:l.n=n)(hn:n<=1048576)(x:zG w r l)(y:zG w bo l) :
  Calls prog 218 #[(r,n,c1),(bo,n,c2)] w λe w'=>e=.returned (.bool true)/\Below w.heap.size w w':=by
 have q:=hI v;clear v;go_enter func218,ntmps218;go_wp2;go_loopw [5] (λi wr=>∃ k,k<=n/\i=int i64 k/\Below w.heap.size w wr) (λi _=>n - (intOf i).toNat)
 case atStart=>exact⟨0,Jq _,rfl,bZ⟩
 case round =>
  obtain⟨k,hk,rfl,a⟩:=hrel
  by_cases hlt:k<n
  ·obtain⟨b,off,rfl,h1,h2⟩:=x k (by rw[q.out];omega)
   obtain⟨j,f,rfl,m,u⟩:=y k (by rw[q.out];omega)
   have o:=Ja w _ h1;have g:=Ja w _ m;have c1:=(a.cell o).trans h1;have c2:=(a.cell (p:=⟨b,_+1,_⟩) o).trans h2;have s:=(a.cell g).trans m;have t:=(a.cell (p:=⟨j,_+1,_⟩) g).trans u;clear h1 h2 m u;have h:b<wr.heap.size:=Nat.lt_of_lt_of_le o a.size;have d:j<wr.heap.size:=Nat.lt_of_lt_of_le g a.size;have i1:(0:Int)<=(k:Int):=by omega
   have i2:(k:Int)<(n:Int):=by omega
   go_wp2;go_region_held3 (λw'=>w'.cell? (b,off+k*2)=some (l.A k)/\w'.cell? (b,off+k*2+1)=some (l.B k)/\w'.cell? (j,f+k*2)=some (l.A k)/\w'.cell? (j,f+k*2+1)=some (l.B k))
    (first|exact⟨c1,c2,s,t⟩|exact⟨(c.cell h).trans c1,(c.cell h).trans c2,(c.cell d).trans s,(c.cell d).trans t⟩)
    (first|(go_at_call 256;refine(zjE _ _ _).mono ?_;rintro e w2 ⟨rfl,c⟩))
   go_wp2;go_roundw
   case rel=>exact⟨k+1,by omega,by go_num,ze a.drew c⟩
   case measure=>simp[intOf];omega
  ·go_wp2
   go_ret;exact⟨rfl,a⟩
theorem zjG (a:Option Addr)(n c:Nat)(L:Int)(w:World)(h0:0<=L)(hL:L<=1048576)(hn:n<=1000000000000000) :
  Calls prog 142 #[(a,n,c),L] w λe w'=>∃ r:Int,e=.returned r/\(r=-1∨(0<=r/\r<=L/\n<=1048576))/\Below w.heap.size w w':=by
 by_cases h:(n:Int)<=L
 ·go_enter func142,ntmps142
  go_wp2;go_ret;exact⟨_,rfl,.inr ⟨by omega,by omega,by omega⟩,bZ⟩
 ·go_enter func142,ntmps142
  go_wp2;go_ret;exact⟨_,rfl,.inl rfl,bZ⟩
theorem zil (x d a mo:Int)(fr tt:ByteArray)(lo i:Option Addr)(n m c1 c2:Nat)(L:Int)(w:World)(h0:0<=L)(hL:L<=1048576)(hf:fr.size<=1000000000000000)(ht:tt.size<=1000000000000000)(u:n<=1000000000000000)(t:m<=1000000000000000) :
  Calls prog 78 #[.agg #[x,fr,tt,d,a,(lo,n,c1),(i,m,c2),mo],L] w λe w'=>∃ r:Int,e=.returned r/\(r=-1∨(0<=r/\r<=L/\fr.size<=1048576/\tt.size<=1048576/\n<=1048576/\m<=1048576))/\Below w.heap.size w w':=by
 have b:Below _ w (w.alloc (.cells #[x,fr,tt,d,a,(lo,n,c1),(i,m,c2),mo] 126)):=zk bZ _;have g:=Jb w (.cells #[x,fr,tt,d,a,(lo,n,c1),(i,m,c2),mo] 126)
 by_cases g1:(fr.size:Int)<=L
 ·by_cases g2:(tt.size:Int)<=L - fr.size
  ·have j:decide (L - (fr.size:Int)<0)=false:=by simp;omega
   have l:decide (L - (fr.size:Int) - (tt.size:Int)<0)=false:=by simp;omega
   go_enter func78,ntmps78;go_wp2_with fail;refine(zlo lo n c1 _ _ (by omega) (by omega) u).mono ?_
   rintro e w1 ⟨r,rfl,hr,c⟩;have k:=zb g c;have f:=ze b c;clear g b c j l
   rcases hr with rfl|⟨o,r1,y⟩
   ·go_wp2
    go_ret;exact⟨_,rfl,.inl rfl,f⟩
   ·have q:=za k 6 _ rfl
    have d0:decide (r<0)=false:=by simpa using o
    go_wp2_with fail;refine(zjG i m c2 r _ o (by omega) t).mono ?_
    rintro e w2 ⟨s,rfl,v,h⟩
    rcases v with rfl|⟨p,s1,z⟩
    ·go_wp2
     go_ret;exact⟨_,rfl,.inl rfl,ze f h⟩
    ·have d1:decide (s<0)=false:=by simpa using p
     go_wp2;go_ret;exact⟨_,rfl,.inr ⟨p,by omega,by omega,by omega,y,z⟩,ze f h⟩
  ·have j:decide (L - (fr.size:Int)<0)=false:=by simp;omega
   have l:decide (L - (fr.size:Int) - (tt.size:Int)<0)=true:=by simp;omega
   go_enter func78,ntmps78;go_wp2;go_ret;exact⟨_,rfl,.inl rfl,b⟩
 ·have j:decide (L - (fr.size:Int)<0)=true:=by simp;omega
  go_enter func78,ntmps78;go_wp2;go_ret;exact⟨_,rfl,.inl rfl,b⟩
theorem zim (x d a mo:Int)(fr tt:ByteArray)(lo t:Option Addr)(n m c1 c2:Nat)(s y:zH)(w:World)(e1:s.n=n)(e2:y.n=m)(hn:n<=1048576)(hm:m<=1048576)(hx:zG w lo s)(hy:zG w t y) :
  Calls prog 94 #[.agg #[x,fr,tt,d,a,(lo,n,c1),(t,m,c2),mo]] w λe w'=>∃ p q,e=.returned (.agg #[x,fr,tt,d,a,(some (p,0),n,n),(some (q,0),m,m),mo])/\w.heap.size<=p/\p<q /\
   w'.rowIs p 223 (n*2) (qn s)/\w'.rowIs q 231 (m*2) (qn y)/\Below w.heap.size w w':=by
 have E1:=hI e1;have E2:=hI e2;clear e1 e2;go_enter func94,ntmps94;go_wp2_with fail;obtain⟨H,c⟩:∃ W,W=(((w.alloc (.cells #[x,fr,tt,d,a,(lo,n,c1),(t,m,c2),mo] 126)).alloc (.cells #[(),False,False,(),(),True,True,()] 140)).alloc (.cells #[x,fr,tt,d,a,True,True,()] 140)):=⟨_,rfl⟩;have K:Below w.heap.size w H:=by rw[c];exact zk (zk (zk bZ _) _) _
 have A0:H.heap[w.heap.size]?=some (.cells #[x,fr,tt,d,a,(lo,n,c1),(t,m,c2),mo] 126 (0,0)):=by rw[c];exact zd (zd (Jb w _) _) _
 have R0:H.heap[w.heap.size+1]?=some (.cells #[(),False,False,(),(),True,True,()] 140 (0,0)):=by rw[c];exact zd (by simpa using Jb (w.alloc _) _) _
 have J:H.heap[w.heap.size+1+1]?=some (.cells #[x,fr,tt,d,a,True,True,()] 140 (0,0)):=by rw[c];simpa using Jb ((w.alloc _).alloc _) _
 rw[← c];clear c;refine(zln lo n c1 s _ E1 hn (hx.below K)).mono ?_;rintro e w1 ⟨g,rfl,hg,j,h⟩;have I:=zb A0 h;have R1:=zb R0 h;have G:=zb J h;have D:=ze K h;have a0:w.heap.size+1+1<g:=by have:=zM J;omega
 clear K A0 R0 J h hg;have R:=za I 6 _ rfl;have S:=za G 5 _ rfl;have T:=zg G 5;go_wp2_with fail;obtain⟨W,k⟩:∃ W,W=w1.setCell (w.heap.size+1+1,5) (some (g,0),n,n):=⟨_,rfl⟩;have A2:W.heap[w.heap.size]?=some (.cells #[x,fr,tt,d,a,(lo,n,c1),(t,m,c2),mo] 126 (0,0)):=by rw[k];exact zD I _ _ (by omega)
 have r2:W.heap[w.heap.size+1]?=some (.cells #[(),False,False,(),(),True,True,()] 140 (0,0)):=by rw[k];exact zD R1 _ _ (by omega)
 have o2:W.heap[w.heap.size+1+1]?=some (.cells #[x,fr,tt,d,a,(some (g,0),n,n),True,()] 140 (0,0)):=by rw[k];exact zm G 5 _
 have b:W.rowIs g 223 (n*2) (qn s):=by rw[k];exact j.setOther (by show g≠_+1;omega) _
 have l:Below w.heap.size w W:=by rw[k];exact D.setCell (by show w.heap.size<=_+1;omega) _
 rw[← k];clear k R S T j D I R1 G;refine(zjF t m c2 y _ E2 hm (hy.below l)).mono ?_;rintro e w2 ⟨i,rfl,O,o,f⟩;have A3:=zb A2 f;have U:=zb r2 f;have Q:=zb o2 f;have r:=qo b f;have E:=ze l f;have P:g<i:=by have:=b.lt;omega
 clear f r2 o2 b l O A2;have qa:=za A3 7 _ rfl;obtain⟨q0,R,S,T,q4,q5,q6,q7⟩:=ce8 Q;have f6:=zg Q 6;have f7:=zg Q 7;obtain⟨y0,y1,y2,y3,y4,y5,y6,y7⟩:=ce8 U;obtain⟨X,Y,Z,z3,z4,z5,z6,z7⟩:=fe8 U;go_wp2;clear qa q0 R S T q4 q5 q6 q7 f6 f7 X Y Z z3 z4 z5 z6 z7 y0 y1 y2 y3 y4 y5 y6 y7;obtain⟨V,v⟩:∃ V,V=(w2.setCell (w.heap.size+1+1,6) (some (i,0),m,m)).setCell (w.heap.size+1+1,7) mo:=⟨_,rfl⟩;have rV:V.heap[w.heap.size+1]?=some (.cells #[(),False,False,(),(),True,True,()] 140 (0,0)):=by rw[v];exact zD (zD U _ _ (by omega)) _ _ (by omega)
 have A:V.rowIs g 223 (n*2) (qn s):=by rw[v];exact(r.setOther (by show g≠_+1;omega) _).setOther (by show g≠_+1;omega) _
 have B:V.rowIs i 231 (m*2) (qn y):=by rw[v];exact(o.setOther (by show i≠_+1;omega) _).setOther (by show i≠_+1;omega) _
 have C:Below w.heap.size w V:=by rw[v];exact(E.setCell (by show w.heap.size<=_+1;omega) _).setCell (by show w.heap.size<=_+1;omega) _
 rw[← v];obtain⟨F,u⟩:∃ F,F=zjz V (w.heap.size+1) 0 x fr tt d a (some (g,0),n,n) (some (i,0),m,m) mo:=⟨_,rfl⟩;have rF:=zmy (v0:=int i64 x) (v1:=.string fr) (v2:=.string tt) (v3:=int i64 d) (v4:=int i64 a) (v5:=.slice (some (g,0)) n n) (v6:=.slice (some (i,0)) m m) (v7:=int i64 mo) rV;rw[← u] at rF;have L:F.rowIs g 223 (n*2) (qn s):=by rw[u];exact zdI A (by omega)
 have M:F.rowIs i 231 (m*2) (qn y):=by rw[u];exact zdI B (by omega)
 have N:Below w.heap.size w F:=by rw[u];exact zfa C (by omega)
 have z:F=(((((((V.setCell (w.heap.size+1,0) x).setCell (w.heap.size+1,1) fr).setCell (w.heap.size+1,2) tt).setCell (w.heap.size+1,3) d).setCell (w.heap.size+1,4) a).setCell (w.heap.size+1,5) (some (g,0),n,n)).setCell (w.heap.size+1,6) (some (i,0),m,m)).setCell (w.heap.size+1,7) mo:=by rw[u];unfold zjz;rfl
 rw[← z];clear u z v rV A B C;obtain⟨X,Y,Z,z3,z4,z5,z6,z7⟩:=ce8 rF;exact Jj (by simp[results,results94,go_sem,X,Y,Z,z3,z4,z5,z6,z7]) rfl ⟨g,i,rfl,by omega,P,L,M,N⟩
theorem zhu (x d a mo:Int)(fr tt:ByteArray)(lo i lo' b:Option Addr)(n m c1 c2 c3 c4:Nat)(k l:zH)(w:World)(r:k.n=n)(s:l.n=m)(y:n<=1048576)(v:m<=1048576)
  (z:zG w lo k) (A:zG w i l) (p:zG w lo' k) (q:zG w b l) :
  Calls prog 123 #[.agg #[x,fr,tt,d,a,(lo,n,c1),(i,m,c2),mo],.agg #[x,fr,tt,d,a,(lo',n,c3),(b,m,c4),mo]] w λe w'=>e=.returned (.bool true)/\Below w.heap.size w w':=by
 have t:=hI r;have u:=hI s;clear r s;have j:Below _ w ((w.alloc (.cells #[x,fr,tt,d,a,(lo,n,c1),(i,m,c2),mo] 140)).alloc (.cells #[x,fr,tt,d,a,(lo',n,c3),(b,m,c4),mo] 140)):=zk (zk bZ _) _;go_enter func123,ntmps123;go_wp2_with fail;refine(zjD lo lo' n c1 c3 k _ t y (z.below j) (p.below j)).mono ?_;rintro e F ⟨rfl,c⟩;have h:=zb (zd (Jb w _) _) c;have o:F.heap[w.heap.size+1]?=_:=zb (by simpa using Jb (w.alloc _) _) c
 have f:=ze j c;clear j c;have B:=za h 6 _ rfl;have C:=za o 6 _ rfl;have D:=za h 7 _ rfl;have E:=za o 7 _ rfl;go_wp2_with fail;refine(zik i b m c2 c4 l _ u v (A.below f) (q.below f)).mono ?_;rintro e w2 ⟨rfl,g⟩;have q5:=za (zb h g) 7 _ rfl;have q6:=za (zb o g) 7 _ rfl;clear B C D E h o;go_wp2;go_ret;exact⟨rfl,ze f g⟩
theorem zin (n:Option Addr)(N c:Nat)(S:Nat->Zj)(w:World)(hN:N<=1000000000000000)(x:QL N S 1000000000000000)(D:qB w n N S) :
  Calls prog 38 #[(n,N,c),int i64 1048576] w λe w'=>∃ r:Int,e=.returned r/\(r=-1∨(0<=r/\r<=1048576/\N<=1048576/\QL N S 1048576))/\Below w.heap.size w w':=by
 have B:=hI x;clear x
 by_cases hf:N<=1048576
 ·have o:decide ((1048576:Int) - (N:Int)<0)=false:=by simp;omega
  go_enter func38,ntmps38;go_wp2;go_loopw [1,5] (λl i wr=>∃ (k:Nat) (L:Int),k<=N/\i=int i64 k/\l=int i64 L/\0<=L/\L<=1048576/\QL k S 1048576/\Below w.heap.size w wr) (λ_ i _=>N - (intOf i).toNat)
  case atStart=>exact⟨0,_,Jq _,rfl,rfl,by omega,by omega,λi C=>by omega,bZ⟩
  case round =>
   obtain⟨k,L,hk,rfl,rfl,y,z,g,a⟩:=hrel;have m:=hI g;clear g o
   by_cases hlt:k<N
   ·obtain⟨b,off,la,lc,ca,cc,rfl,q,h1,h2,h3,s,t,u,v,h8,h9,h,j⟩:=D k hlt
    have d:=Ja w _ h1;have c0:=(a.cell (p:=⟨b,off+_,_⟩) d).trans q;have c1:=(a.cell d).trans h1;have c2:=(a.cell (p:=⟨b,_+2,_⟩) d).trans h2;have c3:=(a.cell (p:=⟨b,_+3,_⟩) d).trans h3;have c4:=(a.cell (p:=⟨b,_+4,_⟩) d).trans s;have c5:=(a.cell (p:=⟨b,_+5,_⟩) d).trans t;have c6:=(a.cell (p:=⟨b,_+6,_⟩) d).trans u;have c7:=(a.cell (p:=⟨b,_+7,_⟩) d).trans v;obtain⟨I,J,K,M⟩:=B k hlt;clear q h1 h2 h3 s t u v h8 h9 h j;go_wp2_with fail;refine(zil _ _ _ _ _ _ _ _ _ _ _ _ L _ y z I J K M).mono ?_;rintro e w2 ⟨r,rfl,hr,f⟩
    rcases hr with rfl|⟨A,r1,E,F,G,H⟩
    ·go_wp2
     go_ret;exact⟨_,rfl,.inl rfl,ze a f⟩
    ·have d1:decide (r<0)=false:=by simpa using A
     go_wp2;go_roundw
     case rel =>
      refine⟨k+1,r,by omega,by go_num,rfl,A,by omega,λi C=>?_,ze a f⟩
      by_cases e:i=k
      ·subst e;exact⟨E,F,G,H⟩
      ·exact m i (by omega)
     case measure=>simp[intOf];omega
   ·obtain rfl:k=N:=by omega
    go_wp2;go_ret;exact⟨_,rfl,.inr ⟨y,z,hf,m⟩,a⟩
 ·have o:decide ((1048576:Int) - (N:Int)<0)=true:=by simp;omega
  go_enter func38,ntmps38;go_wp2;go_ret;exact⟨_,rfl,.inl rfl,bZ⟩
/-- toSailingS: a copy of the sailings, each list in a row of its own. -/
theorem zhv (B:Option Addr)(N t:Nat)(S:Nat->Zj)(w:World)(hN:N<=1048576)(I:QL N S 1048576)(L:qB w B N S) :
  Calls prog 45 #[(B,N,t)] w λe w'=>∃ g l c,e=.returned (some (g,0),N,N)/\zak w' 140 223 231 N w.heap.size g N S l c/\Below w.heap.size w w':=by
 obtain⟨M,r,y,z,A⟩:=info_parts Tryz.infoSailing;have J:=hI I;clear I;go_enter func45,ntmps45;go_wp2_with (first|(at_make;refine wpList_make_full _ rfl _ _ 34 rfl _ 140 M _ 8 underlying34 r y z _ _ _ _ N rfl rfl rfl rfl (by rw[A];omega) (by unfold maxLen;omega) (Jr _) ?_;intro w1 n h))
 go_loopw [4] (λi wr=>∃ (k:Nat) (l c:_),k<=N/\i=int i64 k/\zak wr 140 223 231 k w.heap.size w.heap.size N S l c/\Below w.heap.size w wr)
  (λi _=>N - (intOf i).toNat)
 case atStart=>exact⟨0,λ_=>0,λ_=>0,Jq _,rfl,⟨(ZP n).congr (λj H=>zhL N j H),Jr _,λi r=>by omega,λi r=>by omega,λi j _ H=>by omega⟩,bZ.grown h (Jr _) (by simp)⟩
 case round =>
  obtain⟨k,l,c,hk,rfl,m,d⟩:=hrel;clear n h
  by_cases hlt:k<N
  ·obtain⟨b,off,la,lc,ca,cc,rfl,C,h1,h2,h3,D,E,F,G,h8,h9,v,x⟩:=L k hlt
   have o:=Ja w _ h1;have K:=(d.cell (p:=⟨b,off+_,_⟩) o).trans C;have c1:=(d.cell o).trans h1;have c2:=(d.cell (p:=⟨b,_+2,_⟩) o).trans h2;have c3:=(d.cell (p:=⟨b,_+3,_⟩) o).trans h3;have c4:=(d.cell (p:=⟨b,_+4,_⟩) o).trans D;have c5:=(d.cell (p:=⟨b,_+5,_⟩) o).trans E;have c6:=(d.cell (p:=⟨b,_+6,_⟩) o).trans F;have c7:=(d.cell (p:=⟨b,_+7,_⟩) o).trans G;obtain⟨_,_,Q,R⟩:=J k hlt;clear C h1 h2 h3 D E F G v x;go_wp2_with fail;refine(zim _ _ _ _ _ _ _ _ _ _ _ _ _ _ _ rfl rfl Q R (h8.below d) (h9.below d)).mono ?_;rintro e w2 ⟨a,b',rfl,ga,u,O,P,q⟩;have f:=m.below q;have o0:=f.row.cell (i:=k*8) (by omega)
   have o1:=f.row.cell (i:=k*8+1) (by omega)
   have o2:=f.row.cell (i:=k*8+2) (by omega)
   have o3:=f.row.cell (i:=k*8+3) (by omega)
   have o4:=f.row.cell (i:=k*8+4) (by omega)
   have o5:=f.row.cell (i:=k*8+5) (by omega)
   have o6:=f.row.cell (i:=k*8+6) (by omega)
   have o7:=f.row.cell (i:=k*8+7) (by omega)
   have f0:=f.row.frozen (k*8);have f1:=f.row.frozen (k*8+1);have f2:=f.row.frozen (k*8+2);have f3:=f.row.frozen (k*8+3);have f4:=f.row.frozen (k*8+4);have f5:=f.row.frozen (k*8+5);have f6:=f.row.frozen (k*8+6);have f7:=f.row.frozen (k*8+7);clear K c1 c2 c3 c4 c5 c6 c7 h8 h9;go_wp2;go_roundw
   case rel =>
    have hg:=m.row.lt;have s:=f.step (by omega) u (λi r=>by have:=(m.cabins i r).2.lt;omega) O P
    unfold zjz ZY at s;exact⟨_,_,_,by omega,by go_num,s,(((((((((ze d q).setCell (Jr _) _).setCell (Jr _) _).setCell (Jr _) _).setCell (Jr _) _).setCell (Jr _) _).setCell (Jr _) _).setCell (Jr _) _).setCell (Jr _) _)⟩
   case measure=>simp[intOf];omega
  ·obtain rfl:k=N:=by omega
   go_wp2;go_ret;exact⟨_,l,c,rfl,m,d⟩
/-- eqSailingS at two lists that are one. -/
theorem zgh (D bo:Option Addr)(N c1 c2:Nat)(S:Nat->Zj)(w:World)(hN:N<=1048576)(hs:QL N S 1048576)(hx:qB w D N S)(hy:qB w bo N S) :
  Calls prog 57 #[(D,N,c1),(bo,N,c2)] w λe w'=>e=.returned (.bool true)/\Below w.heap.size w w':=by
 have HS:=hI hs;clear hs;go_enter func57,ntmps57;go_wp2;go_loopw [5] (λi wr=>∃ k,k<=N/\i=int i64 k/\Below w.heap.size w wr) (λi _=>N - (intOf i).toNat)
 case atStart=>exact⟨0,Jq _,rfl,bZ⟩
 case round =>
  obtain⟨k,hk,rfl,a⟩:=hrel
  by_cases hlt:k<N
  ·obtain⟨b,off,la,lc,ca,cc,rfl,V,h1,h2,h3,W,X,Y,Z,h8,h9,_,_⟩:=hx k hlt
   obtain⟨j,d,s,t,m,n,rfl,M,o,O,P,Q,R,T,U,q,r,_,_⟩:=hy k hlt;have l:=Ja w _ h1;have g:=Ja w _ o;have u:=(a.cell (p:=⟨b,off+_,_⟩) l).trans V;have v:=(a.cell l).trans h1;have x:=(a.cell (p:=⟨b,_+2,_⟩) l).trans h2;have y:=(a.cell (p:=⟨b,_+3,_⟩) l).trans h3;have z:=(a.cell (p:=⟨b,_+4,_⟩) l).trans W;have A:=(a.cell (p:=⟨b,_+5,_⟩) l).trans X;have B:=(a.cell (p:=⟨b,_+6,_⟩) l).trans Y;have C:=(a.cell (p:=⟨b,_+7,_⟩) l).trans Z;have E:=(a.cell (p:=⟨j,d+_,_⟩) g).trans M;have F:=(a.cell g).trans o;have G:=(a.cell (p:=⟨j,_+2,_⟩) g).trans O;have H:=(a.cell (p:=⟨j,_+3,_⟩) g).trans P;have I:=(a.cell (p:=⟨j,_+4,_⟩) g).trans Q;have J:=(a.cell (p:=⟨j,_+5,_⟩) g).trans R;have K:=(a.cell (p:=⟨j,_+6,_⟩) g).trans T;have L:=(a.cell (p:=⟨j,_+7,_⟩) g).trans U;obtain⟨_,_,s3,s4⟩:=HS k hlt;have h8:=h8.below a.drew;have h9:=h9.below a.drew;have q:=q.below a.drew;have r:=r.below a.drew;clear V h1 h2 h3 W X Y Z M o O P Q R T U;have h:b<wr.heap.size:=Nat.lt_of_lt_of_le l a.size;have f:j<wr.heap.size:=Nat.lt_of_lt_of_le g a.size;have i1:(0:Int)<=(k:Int):=by omega
   have i2:(k:Int)<(N:Int):=by omega
   go_wp2;go_region_held3 (λw'=>(w'.cell? (b,off+k*8)=some (S k).id/\w'.cell? (b,off+k*8+1)=some (S k).fr/\w'.cell? (b,off+k*8+2)=some (S k).dst/\w'.cell? (b,off+k*8+3)=some (S k).dep/\w'.cell? (b,off+k*8+4)=some (S k).arr/\w'.cell? (b,off+k*8+5)=some (la,(S k).la.n,lc)/\w'.cell? (b,off+k*8+6)=some (ca,(S k).ca.n,cc)/\w'.cell? (b,off+k*8+7)=some (S k).most) /\
     (w'.cell? (j,d+k*8)=some (S k).id/\w'.cell? (j,d+k*8+1)=some (S k).fr/\w'.cell? (j,d+k*8+2)=some (S k).dst/\w'.cell? (j,d+k*8+3)=some (S k).dep/\w'.cell? (j,d+k*8+4)=some (S k).arr/\w'.cell? (j,d+k*8+5)=some (s,(S k).la.n,t)/\w'.cell? (j,d+k*8+6)=some (m,(S k).ca.n,n)/\w'.cell? (j,d+k*8+7)=some (S k).most))
    (first|exact⟨⟨u,v,x,y,z,A,B,C⟩,⟨E,F,G,H,I,J,K,L⟩⟩|exact⟨⟨(c.cell h).trans u,(c.cell h).trans v,(c.cell h).trans x,(c.cell h).trans y,(c.cell h).trans z,(c.cell h).trans A,(c.cell h).trans B,(c.cell h).trans C⟩,⟨(c.cell f).trans E,(c.cell f).trans F,(c.cell f).trans G,(c.cell f).trans H,(c.cell f).trans I,(c.cell f).trans J,(c.cell f).trans K,(c.cell f).trans L⟩⟩)
    (first|(go_at_call 123;refine(zhu _ _ _ _ _ _ _ _ _ _ _ _ _ _ _ _ _ _ _ rfl rfl s3 s4 h8 h9 q r).mono ?_;rintro e w2 ⟨rfl,c⟩))
   go_wp2;go_roundw
   case rel=>exact⟨k+1,by omega,by go_num,ze a.drew c⟩
   case measure=>simp[intOf];omega
  ·go_wp2
   go_ret;exact⟨rfl,a⟩
section
open Go.RowKit
variable{w w':World}{b base e size n k i g N:Nat}{o:Obj}{S:Nat->Prop}{v v1 v2:Value}{d:List Value}{f:Nat->Value}
theorem zK (h:w.heap[b]?=some o):w.drew.heap[b]?=some o:=h
structure zx (w w':World)(S:Nat->Prop):Prop where
 os:w'.os=w.os
 tape:w'.tape=w.tape
 output:w'.output=w.output
 size:w.heap.size<=w'.heap.size
 block:∀ k,k<w.heap.size->¬ S k->w'.heap[k]?=w.heap[k]?
theorem zx.refl (w:World)(S:Nat->Prop):zx w w S:=⟨rfl,rfl,rfl,Jr _,λ_ _ _=>rfl⟩
theorem zx.trans {a:World}(h:zx w w' S)(k:zx w' a S):zx w a S :=
 ⟨k.os.trans h.os,k.tape.trans h.tape,k.output.trans h.output,Jp h.size k.size,λi b c=>(k.block i (Nat.lt_of_lt_of_le b h.size) c).trans (h.block i b c)⟩
theorem zx.mono {T:Nat->Prop}(h:zx w w' S)(b:∀ k,S k->T k):zx w w' T:=⟨h.os,h.tape,h.output,h.size,λi a c=>h.block i a λs=>c (b i s)⟩
theorem zx.of_below (h:Below w.heap.size w w'):zx w w' S:=⟨h.os,h.tape,h.output,h.size,λi a _=>h.block i a⟩
theorem zx.set (h:zx w w' S){a:Addr}(b:S a.block)(u:Value):zx w (w'.setCell a u) S :=
 h.trans ⟨rfl,rfl,rfl,by simp,λk _ c=>Below.heap_setCell _ _ _ _ (λe=>c (e ▸ b))⟩
theorem zx.below {B:Nat}{a:World}(b:Below B a w)(hB:B<=w.heap.size)(h:zx w w' S)(c:∀ k,S k->B<=k):Below B a w' :=
 b.trans ⟨h.os,h.tape,h.output,h.size,λk hk=>h.block k (by omega) (λs=>by have:=c k s;omega)⟩
theorem zx.blk (h:zx w w' S)(a:w.heap[b]?=some o)(c:¬ S b):w'.heap[b]?=some o:=(h.block b (zM a) c).trans a
theorem zx.own (h:zx w w' S)(c:w.ownsRow base e size v n d)(k:∀ g,v.ownBlock=some g->¬ S g):w'.ownsRow base e size v n d:=by
 refine⟨c.1,?_⟩
 rcases c.2 with f|⟨g,a,b,rfl,i,j,rest⟩
 ·exact .inl f
 ·exact .inr ⟨g,a,b,rfl,i,h.blk j (k g rfl),rest⟩
theorem zo (h:Below w.heap.size w w'){a:List Value}(b:w.ownsRow base e size v n a):w'.ownsRow base e size v n a :=
 (zx.of_below (S:=λ_=>False) h).own b (λ_ _ h=>h)
theorem zI {h m f l:Nat}{o p:List Value}(h1:w.ownsRow h e m v1 k o)(h2:w.ownsRow i f n v2 l p)(c:e≠f):∀ g,v1.ownBlock=some g->v2.ownBlock≠some g:=by
 intro g a b
 rcases h1.2 with⟨rfl,_⟩|⟨g1,c1,r1,rfl,_,j,_⟩
 ·simp[Value.ownBlock] at a
 ·rcases h2.2 with⟨rfl,_⟩|⟨g2,c2,r2,rfl,_,d,_⟩
  ·simp[Value.ownBlock] at b
  ·simp only[Value.ownBlock,Option.some.injEq] at a b
   subst a;subst b;rw[j] at d;simp at d;exact c d.2
theorem Zz (h:w.rowIs g e (n*size) f)(a:base<=g)(j:n<=maxLen):w.ownsRow base e size (.slice (some ⟨g,0,none⟩) n n) n ((List.range (n*size)).map f):=by
 obtain⟨c,d,k,b⟩:=h;refine⟨by simp,.inr ⟨g,n,c,rfl,a,d,Jr _,j,k,?_⟩⟩
 apply List.ext_getElem?
 intro i;rw[List.getElem?_take]
 by_cases hi:i<n*size
 ·rw[Jf hi,List.getElem?_map,List.getElem?_range hi,Array.getElem?_toList,b i hi];rfl
 ·rw[Je hi,List.getElem?_eq_none (by simpa using hi)]
theorem range_set {j:Nat}{u:Value}:((List.range N).map f).set j u=(List.range N).map (λi=>if i=j then u else f i):=by
 apply List.ext_getElem?
 intro i;rw[List.getElem?_set,List.getElem?_map,List.getElem?_map,List.length_map,List.length_range]
 by_cases hi:i<N
 ·rw[List.getElem?_range hi]
  by_cases e:j=i
  ·subst e;simp[hi]
  ·rw[Je e];simp[show ¬ i=j from λh=>e h.symm]
 ·rw[List.getElem?_eq_none (by simpa using hi)]
  by_cases e:j=i
  ·subst e;simp[hi]
  ·rw[Je e];rfl
theorem zL {a:Nat}(h:w.ownsRow base e size (.slice (some ⟨g,0,none⟩) n a) n ((List.range N).map f))(j:Nat)(u:Value) :
  (w.setCell ⟨g,j,none⟩ u).ownsRow base e size (.slice (some ⟨g,0,none⟩) n a) n ((List.range N).map (λi=>if i=j then u else f i)):=by
 have:=(h.stored j u).1
 rwa [range_set] at this
theorem qR {a:Nat->Value}(h:w.ownsRow base e size v n ((List.range N).map f))(b:∀ i,i<N->f i=a i):w.ownsRow base e size v n ((List.range N).map a):=by
 have:_=(List.range N).map a:=List.map_congr_left λi c=>b i (by simpa using c)
 rwa [this] at h
theorem zs {a:Nat}(h:w.ownsRow base e size (.slice (some ⟨g,0,none⟩) n a) n ((List.range N).map f))(j:Nat)(b:j<n*size)(hN:N=n*size):w.cell? ⟨g,j,none⟩=some (f j):=by
 rw[h.cellAt j b,List.getElem?_map,List.getElem?_range (by omega)];rfl
theorem qh {c:Nat}{a:Option Addr}{f:List Value}(h:w.ownsRow base e size (.slice a n c) n f)(d:0<n):∃ g,a=some ⟨g,0,none⟩/\base<=g/\g<w.heap.size:=by
 obtain⟨g,b,e,h1,h2⟩:=h.form d;simp only[Value.slice.injEq,true_and] at e;exact⟨g,e.1,h1,h2⟩
end
end Go.Proofs.YtmdnjgihooflfaaGreatDoor

/-
  OWN TEXT: Kit, KitS, KitSh, Kit2, KitD, KitOp, KitBooking.
-/
import Derived.WalkKit
import Derived.WalkSpells
import Derived.WalkSmall
import Derived.Deep.OwnRows
import Derived.Deep.AppendLies
import Derived.Laws.AppendOwnNone
import Derived.Deep.QuietTactic
import Derived.BigQuiet
import Derived.Test.YtmdnjgihooflfaaGreatDoorRows
namespace Go.Proofs.YtmdnjgihooflfaaGreatDoor
open Go.RowKit
open Go.Value (int)
open Go.IntKind (i64)
open Tryz
set_option maxHeartbeats 64000000
set_option maxRecDepth 100000
section
open Go.RowKit
variable{w w':World}{n g t b k i base e size a c:Nat}{o:Obj}{f:Nat->Value}{α:Type}{v v0 v1 v2 v3 v4 v5 v6 v7:Value}{d r:List Value}
abbrev Ja:=@World.block_lt_of_cell?
abbrev Jb:=@heap_alloc_new
abbrev Jc:=@decide_eq_false
abbrev Jd:=@decide_eq_true
abbrev Je:=@if_neg
abbrev Jf:=@if_pos
abbrev Jg:=@Exists.intro
abbrev Jh:=@Below.drew
abbrev Ji:=@Below.refl
abbrev Jj:=@bodyPost_ret
abbrev Jk:=@IntKind.wrap_i64
abbrev Jl:=@wpQuiet_nil
abbrev Jm:=@Calls.mono
abbrev Jn:=@World.ownsRow.frozenAt
abbrev Jo:=@World.news_of_block
abbrev Jp:=@Nat.le_trans
abbrev Jq:=@Nat.zero_le
abbrev Jr:=@Nat.le_refl
abbrev Js:=@of_decide_eq_true
theorem dN {B:Nat} {a:World} (h:Below B a w) (n:Nat):Below B a (w.drewN n):=h.trans ⟨rfl,rfl,rfl,Jr _,λ_ _=>rfl⟩
theorem bZ:Below n w w:=Ji n w
theorem sC {P:Program} {f:FuncId} {a:Array Value}  {r:Ending} {Q:Ending→World→Prop} (h:Calls P f a w λe w'=>e=r∧w'=w) (q:Q r w):Calls P f a w Q:=h.mono (by rintro e w' ⟨rfl,b⟩;subst b;exact q)
open Go.RowKit
theorem hI {p:Prop}(h:p):Hid p:=h
def zT (w:World)(a:Option Addr)(n:Nat)(f:Nat->Int):Prop :=
 ∀ k,k<n->∃ b off,a=some ⟨b,off,none⟩/\w.cell? ⟨b,off+k,none⟩=some (int i64 (f k))
theorem zT.below {a:Option Addr}{f:Nat->Int}(h:zT w a n f)(d:Below w.heap.size w w'):zT w' a n f:=by
 intro k g;obtain⟨b,off,e,c⟩:=h k g;exact⟨b,off,e,(d.cell (Ja w _ c)).trans c⟩
theorem zT.of_row {f:Nat->Int}(h:w.rowIs g t n (λk=>int i64 (f k))):zT w (some ⟨g,0,none⟩) n f:=by
 intro k hk;exact⟨g,0,rfl,by rw[Nat.zero_add];exact h.cell (by omega)⟩
theorem zk (h:Below w.heap.size w w')(o:Obj):Below w.heap.size w (w'.alloc o):=h.alloc h.size o
theorem ze {a:World}(h:Below w.heap.size w w')(k:Below w'.heap.size w' a):Below w.heap.size w a:=h.trans (k.mono h.size)
/-! A block that is known ZY. -/
theorem za {cs:Array Value}(h:w.heap[b]?=some (.cells cs t (0,0)))(i:Nat)(v:Value)(a:cs[i]?=some v):w.cell? ⟨b,i,none⟩=some v:=by
 simp[World.cell?,h,a]
theorem zg {cs:Array Value}(h:w.heap[b]?=some (.cells cs t (0,0)))(i:Nat):w.frozen? ⟨b,i,none⟩=false:=by
 simp[World.frozen?,h]
theorem zM (h:w.heap[b]?=some o):b<w.heap.size:=(Array.getElem?_eq_some_iff.1 h).1
theorem zm {cs:Array Value}(h:w.heap[b]?=some (.cells cs t (0,0)))(i:Nat)(v:Value):(w.setCell ⟨b,i,none⟩ v).heap[b]?=some (.cells (cs.setIfInBounds i v) t (0,0)):=by
 simp[World.setCell,Array.getElem?_modify,h]
theorem zD {b':Nat}(h:w.heap[b]?=some o)(i:Nat)(v:Value)(a:b≠b'):(w.setCell ⟨b',i,none⟩ v).heap[b]?=some o :=
 (Below.heap_setCell w ⟨b',i,none⟩ v b a).trans h
theorem zd (h:w.heap[b]?=some o)(a:Obj):(w.alloc a).heap[b]?=some o:=(Below.heap_alloc w a b (zM h)).trans h
theorem zb (h:w.heap[b]?=some o)(a:Below w.heap.size w w'):w'.heap[b]?=some o:=(a.block b (zM h)).trans h
theorem qo (h:w.rowIs b t n f)(a:Below w.heap.size w w'):w'.rowIs b t n f:=h.of_block (a.block _ h.lt)
def zbJ {α:Type}(k:Nat)(f:Nat->α)(z:α)(i:Nat):α:=if i<k then f i else z
theorem qr (f:Nat->α)(z:α)(h:i<k):zbJ k f z i=f i:=Jf h
theorem zbT (f:Nat->α)(z:α)(h:¬ i<k):zbJ k f z i=z:=Je h
theorem QB (f:Nat->α)(z:α)(k j:Nat)(h:j≠k):zbJ (k+1) f z j=zbJ k f z j:=by
 unfold zbJ;by_cases h2:j<k
 ·rw[Jf h2,Jf (by omega)]
 ·rw[Je h2,Je (by omega)]
theorem ZP {c:List Value}(h:w.ownsRow base e size (.slice (some ⟨g,0,none⟩) n n) n c):w.rowIs g e (n*size) (λj=>c.getD j (.bool false)):=by
 rcases h.2 with⟨b,_⟩|⟨g',f,a,b,_,k,_,_,o,p⟩
 ·cases b
 ·simp only[Value.slice.injEq,Option.some.injEq,Addr.mk.injEq,and_true,true_and] at b
  obtain⟨rfl,rfl⟩:=b;refine⟨a,k,o,λi l=>?_⟩
  have d:a.toList[i]?=c[i]?:=by rw[← p,List.getElem?_take,Jf l]
  have m:i<a.size:=by omega
  simp only[Array.getElem?_toList] at d
  show _=some (c.getD i _)
  rw[List.getD_eq_getElem?_getD,← d,Array.getElem?_eq_getElem m]
  rfl
theorem zjB {c:World}{row:Option Nat}(d:w.grownBy c row)(h:w.heap[b]?=some o)(a:some b≠row):c.heap[b]?=some o:=(d.block b (zM h) a).trans h
def zS (F:Nat->Int)(n:Nat):List Value:=(List.range n).map (λk=>int i64 (F k))
theorem zfx (F:Nat->Int)(k:Nat):zS F (k+1)=zS F k++[int i64 (F k)]:=by
 unfold zS;rw[List.range_succ,List.map_append];rfl
theorem zcD (F:Nat->Int)(n j:Nat)(u:Value)(h:(zS F n)[j]?=some u):j<n/\u=int i64 (F j):=by
 unfold zS at h;rw[List.getElem?_map] at h
 by_cases hj:j<n
 ·rw[List.getElem?_range hj] at h;simp at h;exact⟨hj,h.symm⟩
 ·rw[List.getElem?_eq_none (by simpa using hj)] at h;cases h
theorem Qd (F:Nat->Int)(n:Nat):∀ u ∈ zS F n,u.oneCell'=true:=by
 intro u a;unfold zS at a;simp only[List.mem_map] at a;obtain⟨j,_,rfl⟩:=a
 rfl
theorem Zn (F:Nat->Int)(n:Nat):(zS F n).length=n:=by simp[zS]
theorem zu (h:w.ownsRow base e size v n d)(i:a<=base):w.ownsRow a e size v n d:=by
 refine⟨h.1,?_⟩
 rcases h.2 with f|⟨g,b,c,j,h1,rest⟩
 ·exact .inl f
 ·exact .inr ⟨g,b,c,j,Jp i h1,rest⟩
theorem ZW {b:List Value}(h:w.ownsRow base e size v n b){a:Addr}(c:a.block<base)(u:Value):(w.setCell a u).ownsRow base e size v n b:=ownsRow_setCell_below h c u
theorem zp (h:w.ownsRow base e size v n d):∃ ao c,v=.slice ao n c/\n<=c/\c<=maxLen/\(ao=none->n=0/\c=0):=by
 rcases h.2 with⟨rfl,rfl⟩|⟨g,a,b,rfl,hb,hg,h1,h2,_⟩
 ·exact⟨_,0,rfl,Jr _,Jq _,λ_=>⟨rfl,rfl⟩⟩
 ·exact⟨_,a,rfl,h1,h2,λh=>by cases h⟩
theorem zbo {a:Option Addr}{F:Nat->Int}(h:w.ownsRow base e 1 (.slice a n c) n (zS F n)):zT w a n F:=by
 intro k i
 rcases h.2 with⟨_,h0⟩|⟨g,d,f,b,hb,hg,h1,h2,_⟩
 ·omega
 ·simp only[Value.slice.injEq,true_and] at b
  obtain⟨rfl,rfl⟩:=b;refine⟨g,0,rfl,?_⟩;rw[Nat.zero_add,h.cellAt k (by omega)]
  unfold zS;rw[List.getElem?_map,List.getElem?_range i];rfl
theorem fill_step (f:Nat->α)(z:α)(k j:Nat):(if j=k then f k else if j<k then f j else z)=if j<k+1 then f j else z:=by
 by_cases h:j=k
 ·subst h;simp
 ·by_cases h2:j<k
  ·rw[Je h,Jf h2,Jf (by omega)]
  ·rw[Je h,Je h2,Je (by omega)]
theorem ce3 (h:w.heap[b]?=some (.cells (v0 :: v1 :: v2 :: r).toArray t (0,0))):w.cell? ⟨b,0,none⟩=some v0/\w.cell? ⟨b,1,none⟩=some v1/\w.cell? ⟨b,2,none⟩=some v2:=⟨za h 0 _ rfl,za h 1 _ rfl,za h 2 _ rfl⟩
theorem fe3 {c:Array Value}(h:w.heap[b]?=some (.cells c t (0,0))):w.frozen? ⟨b,0,none⟩=false/\w.frozen? ⟨b,1,none⟩=false/\w.frozen? ⟨b,2,none⟩=false:=⟨zg h 0,zg h 1,zg h 2⟩
theorem ce4 (h:w.heap[b]?=some (.cells (v0 :: v1 :: v2 :: v3 :: r).toArray t (0,0))):w.cell? ⟨b,0,none⟩=some v0/\w.cell? ⟨b,1,none⟩=some v1/\w.cell? ⟨b,2,none⟩=some v2/\w.cell? ⟨b,3,none⟩=some v3:=⟨za h 0 _ rfl,za h 1 _ rfl,za h 2 _ rfl,za h 3 _ rfl⟩
theorem fe4 {c:Array Value}(h:w.heap[b]?=some (.cells c t (0,0))):w.frozen? ⟨b,0,none⟩=false/\w.frozen? ⟨b,1,none⟩=false/\w.frozen? ⟨b,2,none⟩=false/\w.frozen? ⟨b,3,none⟩=false:=⟨zg h 0,zg h 1,zg h 2,zg h 3⟩
theorem ce5 (h:w.heap[b]?=some (.cells (v0 :: v1 :: v2 :: v3 :: v4 :: r).toArray t (0,0))):w.cell? ⟨b,0,none⟩=some v0/\w.cell? ⟨b,1,none⟩=some v1/\w.cell? ⟨b,2,none⟩=some v2/\w.cell? ⟨b,3,none⟩=some v3/\w.cell? ⟨b,4,none⟩=some v4:=⟨za h 0 _ rfl,za h 1 _ rfl,za h 2 _ rfl,za h 3 _ rfl,za h 4 _ rfl⟩
theorem fe5 {c:Array Value}(h:w.heap[b]?=some (.cells c t (0,0))):w.frozen? ⟨b,0,none⟩=false/\w.frozen? ⟨b,1,none⟩=false/\w.frozen? ⟨b,2,none⟩=false/\w.frozen? ⟨b,3,none⟩=false/\w.frozen? ⟨b,4,none⟩=false:=⟨zg h 0,zg h 1,zg h 2,zg h 3,zg h 4⟩
theorem ce6 (h:w.heap[b]?=some (.cells (v0 :: v1 :: v2 :: v3 :: v4 :: v5 :: r).toArray t (0,0))):w.cell? ⟨b,0,none⟩=some v0/\w.cell? ⟨b,1,none⟩=some v1/\w.cell? ⟨b,2,none⟩=some v2/\w.cell? ⟨b,3,none⟩=some v3/\w.cell? ⟨b,4,none⟩=some v4/\w.cell? ⟨b,5,none⟩=some v5:=⟨za h 0 _ rfl,za h 1 _ rfl,za h 2 _ rfl,za h 3 _ rfl,za h 4 _ rfl,za h 5 _ rfl⟩
theorem fe6 {c:Array Value}(h:w.heap[b]?=some (.cells c t (0,0))):w.frozen? ⟨b,0,none⟩=false/\w.frozen? ⟨b,1,none⟩=false/\w.frozen? ⟨b,2,none⟩=false/\w.frozen? ⟨b,3,none⟩=false/\w.frozen? ⟨b,4,none⟩=false/\w.frozen? ⟨b,5,none⟩=false:=⟨zg h 0,zg h 1,zg h 2,zg h 3,zg h 4,zg h 5⟩
theorem ce7 (h:w.heap[b]?=some (.cells (v0 :: v1 :: v2 :: v3 :: v4 :: v5 :: v6 :: r).toArray t (0,0))):w.cell? ⟨b,0,none⟩=some v0/\w.cell? ⟨b,1,none⟩=some v1/\w.cell? ⟨b,2,none⟩=some v2/\w.cell? ⟨b,3,none⟩=some v3/\w.cell? ⟨b,4,none⟩=some v4/\w.cell? ⟨b,5,none⟩=some v5/\w.cell? ⟨b,6,none⟩=some v6:=⟨za h 0 _ rfl,za h 1 _ rfl,za h 2 _ rfl,za h 3 _ rfl,za h 4 _ rfl,za h 5 _ rfl,za h 6 _ rfl⟩
theorem fe7 {c:Array Value}(h:w.heap[b]?=some (.cells c t (0,0))):w.frozen? ⟨b,0,none⟩=false/\w.frozen? ⟨b,1,none⟩=false/\w.frozen? ⟨b,2,none⟩=false/\w.frozen? ⟨b,3,none⟩=false/\w.frozen? ⟨b,4,none⟩=false/\w.frozen? ⟨b,5,none⟩=false/\w.frozen? ⟨b,6,none⟩=false:=⟨zg h 0,zg h 1,zg h 2,zg h 3,zg h 4,zg h 5,zg h 6⟩
theorem ce8 (h:w.heap[b]?=some (.cells (v0 :: v1 :: v2 :: v3 :: v4 :: v5 :: v6 :: v7 :: r).toArray t (0,0))):w.cell? ⟨b,0,none⟩=some v0/\w.cell? ⟨b,1,none⟩=some v1/\w.cell? ⟨b,2,none⟩=some v2/\w.cell? ⟨b,3,none⟩=some v3/\w.cell? ⟨b,4,none⟩=some v4/\w.cell? ⟨b,5,none⟩=some v5/\w.cell? ⟨b,6,none⟩=some v6/\w.cell? ⟨b,7,none⟩=some v7:=⟨za h 0 _ rfl,za h 1 _ rfl,za h 2 _ rfl,za h 3 _ rfl,za h 4 _ rfl,za h 5 _ rfl,za h 6 _ rfl,za h 7 _ rfl⟩
theorem fe8 {c:Array Value}(h:w.heap[b]?=some (.cells c t (0,0))):w.frozen? ⟨b,0,none⟩=false/\w.frozen? ⟨b,1,none⟩=false/\w.frozen? ⟨b,2,none⟩=false/\w.frozen? ⟨b,3,none⟩=false/\w.frozen? ⟨b,4,none⟩=false/\w.frozen? ⟨b,5,none⟩=false/\w.frozen? ⟨b,6,none⟩=false/\w.frozen? ⟨b,7,none⟩=false:=⟨zg h 0,zg h 1,zg h 2,zg h 3,zg h 4,zg h 5,zg h 6,zg h 7⟩
theorem ce9 {a:Value}(h:w.heap[b]?=some (.cells (v0 :: v1 :: v2 :: v3 :: v4 :: v5 :: v6 :: v7 :: a :: r).toArray t (0,0))):w.cell? ⟨b,0,none⟩=some v0/\w.cell? ⟨b,1,none⟩=some v1/\w.cell? ⟨b,2,none⟩=some v2/\w.cell? ⟨b,3,none⟩=some v3/\w.cell? ⟨b,4,none⟩=some v4/\w.cell? ⟨b,5,none⟩=some v5/\w.cell? ⟨b,6,none⟩=some v6/\w.cell? ⟨b,7,none⟩=some v7/\w.cell? ⟨b,8,none⟩=some a:=⟨za h 0 _ rfl,za h 1 _ rfl,za h 2 _ rfl,za h 3 _ rfl,za h 4 _ rfl,za h 5 _ rfl,za h 6 _ rfl,za h 7 _ rfl,za h 8 _ rfl⟩
theorem fe9 {c:Array Value}(h:w.heap[b]?=some (.cells c t (0,0))):w.frozen? ⟨b,0,none⟩=false/\w.frozen? ⟨b,1,none⟩=false/\w.frozen? ⟨b,2,none⟩=false/\w.frozen? ⟨b,3,none⟩=false/\w.frozen? ⟨b,4,none⟩=false/\w.frozen? ⟨b,5,none⟩=false/\w.frozen? ⟨b,6,none⟩=false/\w.frozen? ⟨b,7,none⟩=false/\w.frozen? ⟨b,8,none⟩=false:=⟨zg h 0,zg h 1,zg h 2,zg h 3,zg h 4,zg h 5,zg h 6,zg h 7,zg h 8⟩
theorem ce10 {a c:Value}(h:w.heap[b]?=some (.cells (v0 :: v1 :: v2 :: v3 :: v4 :: v5 :: v6 :: v7 :: a :: c :: r).toArray t (0,0))):w.cell? ⟨b,0,none⟩=some v0/\w.cell? ⟨b,1,none⟩=some v1/\w.cell? ⟨b,2,none⟩=some v2/\w.cell? ⟨b,3,none⟩=some v3/\w.cell? ⟨b,4,none⟩=some v4/\w.cell? ⟨b,5,none⟩=some v5/\w.cell? ⟨b,6,none⟩=some v6/\w.cell? ⟨b,7,none⟩=some v7/\w.cell? ⟨b,8,none⟩=some a/\w.cell? ⟨b,9,none⟩=some c:=⟨za h 0 _ rfl,za h 1 _ rfl,za h 2 _ rfl,za h 3 _ rfl,za h 4 _ rfl,za h 5 _ rfl,za h 6 _ rfl,za h 7 _ rfl,za h 8 _ rfl,za h 9 _ rfl⟩
theorem fe10 {c:Array Value}(h:w.heap[b]?=some (.cells c t (0,0))):w.frozen? ⟨b,0,none⟩=false/\w.frozen? ⟨b,1,none⟩=false/\w.frozen? ⟨b,2,none⟩=false/\w.frozen? ⟨b,3,none⟩=false/\w.frozen? ⟨b,4,none⟩=false/\w.frozen? ⟨b,5,none⟩=false/\w.frozen? ⟨b,6,none⟩=false/\w.frozen? ⟨b,7,none⟩=false/\w.frozen? ⟨b,8,none⟩=false/\w.frozen? ⟨b,9,none⟩=false:=⟨zg h 0,zg h 1,zg h 2,zg h 3,zg h 4,zg h 5,zg h 6,zg h 7,zg h 8,zg h 9⟩
theorem ce11 {c d a:Value}(h:w.heap[b]?=some (.cells (v0 :: v1 :: v2 :: v3 :: v4 :: v5 :: v6 :: v7 :: c :: d :: a :: r).toArray t (0,0))):w.cell? ⟨b,0,none⟩=some v0/\w.cell? ⟨b,1,none⟩=some v1/\w.cell? ⟨b,2,none⟩=some v2/\w.cell? ⟨b,3,none⟩=some v3/\w.cell? ⟨b,4,none⟩=some v4/\w.cell? ⟨b,5,none⟩=some v5/\w.cell? ⟨b,6,none⟩=some v6/\w.cell? ⟨b,7,none⟩=some v7/\w.cell? ⟨b,8,none⟩=some c/\w.cell? ⟨b,9,none⟩=some d/\w.cell? ⟨b,10,none⟩=some a:=⟨za h 0 _ rfl,za h 1 _ rfl,za h 2 _ rfl,za h 3 _ rfl,za h 4 _ rfl,za h 5 _ rfl,za h 6 _ rfl,za h 7 _ rfl,za h 8 _ rfl,za h 9 _ rfl,za h 10 _ rfl⟩
theorem fe11 {c:Array Value}(h:w.heap[b]?=some (.cells c t (0,0))):w.frozen? ⟨b,0,none⟩=false/\w.frozen? ⟨b,1,none⟩=false/\w.frozen? ⟨b,2,none⟩=false/\w.frozen? ⟨b,3,none⟩=false/\w.frozen? ⟨b,4,none⟩=false/\w.frozen? ⟨b,5,none⟩=false/\w.frozen? ⟨b,6,none⟩=false/\w.frozen? ⟨b,7,none⟩=false/\w.frozen? ⟨b,8,none⟩=false/\w.frozen? ⟨b,9,none⟩=false/\w.frozen? ⟨b,10,none⟩=false:=⟨zg h 0,zg h 1,zg h 2,zg h 3,zg h 4,zg h 5,zg h 6,zg h 7,zg h 8,zg h 9,zg h 10⟩
theorem zeW {d e a c:Value}(h:w.heap[b]?=some (.cells (v0 :: v1 :: v2 :: v3 :: v4 :: v5 :: v6 :: v7 :: d :: e :: a :: c :: r).toArray t (0,0))):w.cell? ⟨b,0,none⟩=some v0/\w.cell? ⟨b,1,none⟩=some v1/\w.cell? ⟨b,2,none⟩=some v2/\w.cell? ⟨b,3,none⟩=some v3/\w.cell? ⟨b,4,none⟩=some v4/\w.cell? ⟨b,5,none⟩=some v5/\w.cell? ⟨b,6,none⟩=some v6/\w.cell? ⟨b,7,none⟩=some v7/\w.cell? ⟨b,8,none⟩=some d/\w.cell? ⟨b,9,none⟩=some e/\w.cell? ⟨b,10,none⟩=some a/\w.cell? ⟨b,11,none⟩=some c:=⟨za h 0 _ rfl,za h 1 _ rfl,za h 2 _ rfl,za h 3 _ rfl,za h 4 _ rfl,za h 5 _ rfl,za h 6 _ rfl,za h 7 _ rfl,za h 8 _ rfl,za h 9 _ rfl,za h 10 _ rfl,za h 11 _ rfl⟩
theorem fe12 {c:Array Value}(h:w.heap[b]?=some (.cells c t (0,0))):w.frozen? ⟨b,0,none⟩=false/\w.frozen? ⟨b,1,none⟩=false/\w.frozen? ⟨b,2,none⟩=false/\w.frozen? ⟨b,3,none⟩=false/\w.frozen? ⟨b,4,none⟩=false/\w.frozen? ⟨b,5,none⟩=false/\w.frozen? ⟨b,6,none⟩=false/\w.frozen? ⟨b,7,none⟩=false/\w.frozen? ⟨b,8,none⟩=false/\w.frozen? ⟨b,9,none⟩=false/\w.frozen? ⟨b,10,none⟩=false/\w.frozen? ⟨b,11,none⟩=false:=⟨zg h 0,zg h 1,zg h 2,zg h 3,zg h 4,zg h 5,zg h 6,zg h 7,zg h 8,zg h 9,zg h 10,zg h 11⟩
theorem zeX {e f a c d:Value}(h:w.heap[b]?=some (.cells (v0 :: v1 :: v2 :: v3 :: v4 :: v5 :: v6 :: v7 :: e :: f :: a :: c :: d :: r).toArray t (0,0))):w.cell? ⟨b,0,none⟩=some v0/\w.cell? ⟨b,1,none⟩=some v1/\w.cell? ⟨b,2,none⟩=some v2/\w.cell? ⟨b,3,none⟩=some v3/\w.cell? ⟨b,4,none⟩=some v4/\w.cell? ⟨b,5,none⟩=some v5/\w.cell? ⟨b,6,none⟩=some v6/\w.cell? ⟨b,7,none⟩=some v7/\w.cell? ⟨b,8,none⟩=some e/\w.cell? ⟨b,9,none⟩=some f/\w.cell? ⟨b,10,none⟩=some a/\w.cell? ⟨b,11,none⟩=some c/\w.cell? ⟨b,12,none⟩=some d:=⟨za h 0 _ rfl,za h 1 _ rfl,za h 2 _ rfl,za h 3 _ rfl,za h 4 _ rfl,za h 5 _ rfl,za h 6 _ rfl,za h 7 _ rfl,za h 8 _ rfl,za h 9 _ rfl,za h 10 _ rfl,za h 11 _ rfl,za h 12 _ rfl⟩
theorem fe13 {c:Array Value}(h:w.heap[b]?=some (.cells c t (0,0))):w.frozen? ⟨b,0,none⟩=false/\w.frozen? ⟨b,1,none⟩=false/\w.frozen? ⟨b,2,none⟩=false/\w.frozen? ⟨b,3,none⟩=false/\w.frozen? ⟨b,4,none⟩=false/\w.frozen? ⟨b,5,none⟩=false/\w.frozen? ⟨b,6,none⟩=false/\w.frozen? ⟨b,7,none⟩=false/\w.frozen? ⟨b,8,none⟩=false/\w.frozen? ⟨b,9,none⟩=false/\w.frozen? ⟨b,10,none⟩=false/\w.frozen? ⟨b,11,none⟩=false/\w.frozen? ⟨b,12,none⟩=false:=⟨zg h 0,zg h 1,zg h 2,zg h 3,zg h 4,zg h 5,zg h 6,zg h 7,zg h 8,zg h 9,zg h 10,zg h 11,zg h 12⟩
theorem sB {α:Type _}(l:List α)(i:Nat)(a:α):l.toArray.setIfInBounds i a=(l.set i a).toArray:=List.setIfInBounds_toArray ..
theorem sZ {α:Type _}(x a:α)(l:List α):(x :: l).set 0 a=a :: l:=rfl
theorem sS {α:Type _}(x a:α)(l:List α)(n:Nat):(x :: l).set (n+1) a=x :: l.set n a:=rfl
end
section
open Go.RowKit
variable{w w':World}{g t n k N e lo a b:Nat}{f:Nat->Value}{v0 v1 v2 v3 v4 v5 v6 v7:Value}
structure zH where
 n:Nat
 A:Nat->Int
 B:Nat->Int
def zG (w:World)(a:Option Addr)(p:zH):Prop :=
 ∀ k,k<p.n->∃ b off,a=some ⟨b,off,none⟩/\w.cell? ⟨b,off+k*2,none⟩=some (int i64 (p.A k))/\w.cell? ⟨b,off+k*2+1,none⟩=some (int i64 (p.B k))
theorem zG.below {c:Option Addr}{p:zH}(h:zG w c p)(d:Below w.heap.size w w'):zG w' c p:=by
 intro k f;obtain⟨b,off,e,h1,h2⟩:=h k f;have a:b<w.heap.size:=Ja w _ h1;exact⟨b,off,e,(d.cell a).trans h1,(d.cell a).trans h2⟩
def qn (p:zH)(j:Nat):Value:=if j % 2=0 then int i64 (p.A (j / 2)) else int i64 (p.B (j / 2))
theorem zeY (p:zH)(k:Nat):qn p (k*2)=int i64 (p.A k):=by
 unfold qn;rw[Jf (by omega),show k*2 / 2=k by omega]
theorem zeZ (p:zH)(k:Nat):qn p (k*2+1)=int i64 (p.B k):=by
 unfold qn;rw[Je (by omega),show(k*2+1) / 2=k by omega]
theorem zG.of_row {p:zH}(h:w.rowIs g t (p.n*2) (qn p)):zG w (some ⟨g,0,none⟩) p:=by
 intro k hk;refine⟨g,0,rfl,?_,?_⟩
 ·rw[Nat.zero_add,h.cell (by omega),zeY]
 ·rw[Nat.zero_add,h.cell (by omega),zeZ]
theorem zhK (n:Nat)(j:Nat)(a:j<n*2):(madeCells (Value.agg #[int i64 0,int i64 0]).cells (n*2)).toList.getD j (.bool false)=qn ⟨n,λ_=>0,λ_=>0⟩ j:=by
 have b:(Value.agg #[_,_]).cells=#[int i64 0,int i64 0]:=rfl;rw[b];simp only[madeCells,Array.toList_map,List.getD_eq_getElem?_getD,List.getElem?_map,Array.toList_range,List.getElem?_range a,Option.map_some,Option.getD_some];unfold qn;have:j % 2=0∨j % 2=1:=by omega
 rcases this with h|h <;> simp[h]
theorem zmx {p p':zH}(h:w.rowIs g t n (qn p))(b:∀ i,i≠k->p'.A i=p.A i)(c:∀ i,i≠k->p'.B i=p.B i) :
  ((w.setCell ⟨g,k*2,none⟩ (int i64 (p'.A k))).setCell ⟨g,k*2+1,none⟩ (int i64 (p'.B k))).rowIs g t n (qn p'):=by
 refine((h.set _ _).set _ _).congr λj _=>?_
 by_cases h1:j=k*2+1
 ·subst h1;rw[Jf rfl,zeZ]
 ·rw[Je h1]
  by_cases h0:j=k*2
  ·subst h0;rw[Jf rfl,zeY]
  ·rw[Je h0]
   have a:j / 2≠k:=by omega
   unfold qn;rw[b _ a,c _ a]
def zde (k:Nat)(p:zH):zH:=⟨p.n,zbJ k p.A 0,zbJ k p.B 0⟩
def qj (a:Option Addr)(n c:Nat):Prop:=n<=c/\c<=9223372036854775807/\(a=none->n=0/\c=0)
structure Zj where
 id:Int
 fr:ByteArray
 dst:ByteArray
 dep:Int
 arr:Int
 la:zH
 ca:zH
 most:Int
def Zj.zero:Zj:=⟨0,⟨#[]⟩,⟨#[]⟩,0,0,⟨0,λ_=>0,λ_=>0⟩,⟨0,λ_=>0,λ_=>0⟩,0⟩
instance:Inhabited Zj:=⟨Zj.zero⟩
def qB (w:World)(a:Option Addr)(N:Nat)(S:Nat->Zj):Prop :=
 ∀ k,k<N->∃ b off la lc ca cc,a=some ⟨b,off,none⟩/\w.cell? ⟨b,off+k*8,none⟩=some (int i64 (S k).id)/\w.cell? ⟨b,off+k*8+1,none⟩=some (.string (S k).fr) /\
  w.cell? ⟨b,off+k*8+2,none⟩=some (.string (S k).dst)/\w.cell? ⟨b,off+k*8+3,none⟩=some (int i64 (S k).dep)/\w.cell? ⟨b,off+k*8+4,none⟩=some (int i64 (S k).arr) /\
  w.cell? ⟨b,off+k*8+5,none⟩=some (.slice la (S k).la.n lc)/\w.cell? ⟨b,off+k*8+6,none⟩=some (.slice ca (S k).ca.n cc)/\w.cell? ⟨b,off+k*8+7,none⟩=some (int i64 (S k).most) /\
  zG w la (S k).la/\zG w ca (S k).ca/\qj la (S k).la.n lc/\qj ca (S k).ca.n cc
theorem qB.below {d:Option Addr}{S:Nat->Zj}(h:qB w d N S)(c:Below w.heap.size w w'):qB w' d N S:=by
 intro k p;obtain⟨b,off,la,q,ca,f,e,g,h1,h2,h3,i,j,l,m,h8,h9,n,o⟩:=h k p;have a:b<w.heap.size:=Ja w _ h1;exact⟨b,off,la,q,ca,f,e,(c.cell a).trans g,(c.cell a).trans h1,(c.cell a).trans h2,(c.cell a).trans h3,(c.cell a).trans i,(c.cell a).trans j,(c.cell a).trans l,(c.cell a).trans m,h8.below c,h9.below c,n,o⟩
def qz (S:Nat->Zj)(a cs:Nat->Value)(j:Nat):Value :=
 if j % 8=0 then int i64 (S (j / 8)).id else if j % 8=1 then .string (S (j / 8)).fr else if j % 8=2 then .string (S (j / 8)).dst else if j % 8=3 then int i64 (S (j / 8)).dep
 else if j % 8=4 then int i64 (S (j / 8)).arr else if j % 8=5 then a (j / 8) else if j % 8=6 then cs (j / 8) else int i64 (S (j / 8)).most
theorem zcd (S:Nat->Zj)(a cs:Nat->Value)(k:Nat):qz S a cs (k*8)=int i64 (S k).id:=by
 unfold qz;rw[Jf (by omega),show k*8 / 8=k by omega]
theorem zce (S:Nat->Zj)(a cs:Nat->Value)(k:Nat):qz S a cs (k*8+1)=.string (S k).fr:=by
 unfold qz;rw[Je (by omega),Jf (by omega),show(k*8+1) / 8=k by omega]
theorem zcf (S:Nat->Zj)(a cs:Nat->Value)(k:Nat):qz S a cs (k*8+2)=.string (S k).dst:=by
 unfold qz;rw[Je (by omega),Je (by omega),Jf (by omega),show(k*8+2) / 8=k by omega]
theorem zcg (S:Nat->Zj)(a cs:Nat->Value)(k:Nat):qz S a cs (k*8+3)=int i64 (S k).dep:=by
 unfold qz;rw[Je (by omega),Je (by omega),Je (by omega),Jf (by omega),show(k*8+3) / 8=k by omega]
theorem zch (S:Nat->Zj)(a cs:Nat->Value)(k:Nat):qz S a cs (k*8+4)=int i64 (S k).arr:=by
 unfold qz;rw[Je (by omega),Je (by omega),Je (by omega),Je (by omega),Jf (by omega),show(k*8+4) / 8=k by omega]
theorem Q2 (S:Nat->Zj)(a cs:Nat->Value)(k:Nat):qz S a cs (k*8+5)=a k:=by
 unfold qz;rw[Je (by omega),Je (by omega),Je (by omega),Je (by omega),Je (by omega),Jf (by omega),show(k*8+5) / 8=k by omega]
theorem Q4 (S:Nat->Zj)(a cs:Nat->Value)(k:Nat):qz S a cs (k*8+6)=cs k:=by
 unfold qz;rw[Je (by omega),Je (by omega),Je (by omega),Je (by omega),Je (by omega),Je (by omega),Jf (by omega),show(k*8+6) / 8=k by omega]
theorem zci (S:Nat->Zj)(a cs:Nat->Value)(k:Nat):qz S a cs (k*8+7)=int i64 (S k).most:=by
 unfold qz;rw[Je (by omega),Je (by omega),Je (by omega),Je (by omega),Je (by omega),Je (by omega),Je (by omega),show(k*8+7) / 8=k by omega]
theorem zhL (n:Nat)(j:Nat)(a:j<n*8):(madeCells (Value.agg #[int i64 0,.string ⟨#[]⟩,.string ⟨#[]⟩,int i64 0,int i64 0,.slice none 0 0,.slice none 0 0,int i64 0]).cells (n*8)).toList.getD j (.bool false)=qz (λ_=>Zj.zero) (λ_=>.slice none 0 0) (λ_=>.slice none 0 0) j:=by
 have b:(Value.agg #[_,_,_,_,_,_,_,_]).cells=#[int i64 0,.string ⟨#[]⟩,.string ⟨#[]⟩,int i64 0,int i64 0,.slice none 0 0,.slice none 0 0,int i64 0]:=rfl;rw[b];simp only[madeCells,Array.toList_map,List.getD_eq_getElem?_getD,List.getElem?_map,Array.toList_range,List.getElem?_range a,Option.map_some,Option.getD_some];unfold qz;have:j % 8=0∨j % 8=1∨j % 8=2∨j % 8=3∨j % 8=4∨j % 8=5∨j % 8=6∨j % 8=7:=by omega
 rcases this with h|h|h|h|h|h|h|h <;> simp[h,Zj.zero]
def zjz (w:World)(g o:Nat)(v0 v1 v2 v3 v4 v5 v6 v7:Value):World :=
 (((((((w.setCell ⟨g,o,none⟩ v0).setCell ⟨g,o+1,none⟩ v1).setCell ⟨g,o+2,none⟩ v2).setCell ⟨g,o+3,none⟩ v3).setCell ⟨g,o+4,none⟩ v4).setCell ⟨g,o+5,none⟩ v5).setCell ⟨g,o+6,none⟩ v6).setCell ⟨g,o+7,none⟩ v7
theorem zdI {o x:Nat}(h:w.rowIs x t n f)(a:x≠g):(zjz w g o v0 v1 v2 v3 v4 v5 v6 v7).rowIs x t n f:=by
 unfold zjz;exact(((((((h.setOther (by show x≠g;exact a) _).setOther (by show x≠g;exact a) _).setOther (by show x≠g;exact a) _).setOther (by show x≠g;exact a) _).setOther (by show x≠g;exact a) _).setOther (by show x≠g;exact a) _).setOther (by show x≠g;exact a) _).setOther (by show x≠g;exact a) _
theorem zfa {b:World}{o:Nat}(h:Below b.heap.size b w)(a:b.heap.size<=g):Below b.heap.size b (zjz w g o v0 v1 v2 v3 v4 v5 v6 v7):=by
 unfold zjz;exact(((((((h.setCell a _).setCell a _).setCell a _).setCell a _).setCell a _).setCell a _).setCell a _).setCell a _
theorem zmy {u0 u1 u2 u3 u4 u5 u6 u7:Value}(h:w.heap[g]?=some (.cells #[u0,u1,u2,u3,u4,u5,u6,u7] t (0,0))) :
  (zjz w g 0 v0 v1 v2 v3 v4 v5 v6 v7).heap[g]?=some (.cells #[v0,v1,v2,v3,v4,v5,v6,v7] t (0,0)):=by
 unfold zjz;have:=zm (zm (zm (zm (zm (zm (zm (zm h 0 v0) 1 v1) 2 v2) 3 v3) 4 v4) 5 v5) 6 v6) 7 v7
 simpa using this
theorem zmz {S S':Nat->Zj}{b ls' cs cs':Nat->Value}(h:w.rowIs g t n (qz S b cs))
  (e:∀ i,i≠k->S' i=S i) (d:∀ i,i≠k->ls' i=b i) (c:∀ i,i≠k->cs' i=cs i) :
  (zjz w g (k*8) (int i64 (S' k).id) (.string (S' k).fr) (.string (S' k).dst) (int i64 (S' k).dep) (int i64 (S' k).arr) (ls' k) (cs' k) (int i64 (S' k).most)).rowIs g t n (qz S' ls' cs'):=by
 unfold zjz;refine((((((((h.set _ _).set _ _).set _ _).set _ _).set _ _).set _ _).set _ _).set _ _).congr λj _=>?_
 by_cases h7:j=k*8+7
 ·subst h7;rw[Jf rfl,zci]
 rw[Je h7]
 by_cases h6:j=k*8+6
 ·subst h6;rw[Jf rfl,Q4]
 rw[Je h6]
 by_cases h5:j=k*8+5
 ·subst h5;rw[Jf rfl,Q2]
 rw[Je h5]
 by_cases h4:j=k*8+4
 ·subst h4;rw[Jf rfl,zch]
 rw[Je h4]
 by_cases h3:j=k*8+3
 ·subst h3;rw[Jf rfl,zcg]
 rw[Je h3]
 by_cases h2:j=k*8+2
 ·subst h2;rw[Jf rfl,zcf]
 rw[Je h2]
 by_cases h1:j=k*8+1
 ·subst h1;rw[Jf rfl,zce]
 rw[Je h1]
 by_cases h0:j=k*8
 ·subst h0;rw[Jf rfl,zcd]
 rw[Je h0];have a:j / 8≠k:=by omega
 unfold qz;rw[e _ a,d _ a,c _ a]
def ZY (b n:Nat):Value:=.slice (some ⟨b,0,none⟩) n n
def at_ (f:Nat->Nat)(q u:Nat)(i:Nat):Nat:=if i=q then u else f i
theorem zmP (f:Nat->Nat)(q u:Nat):at_ f q u q=u:=Jf rfl
theorem zjC (f:Nat->Nat)(q u i:Nat)(h:i≠q):at_ f q u i=f i:=Je h
structure zak (w:World)(d b a k lo g N:Nat)(S:Nat->Zj)(l c:Nat->Nat):Prop where
 row:w.rowIs g d (N*8) (qz (zbJ k S Zj.zero) (zbJ k (λi=>ZY (l i) (S i).la.n) (.slice none 0 0)) (zbJ k (λi=>ZY (c i) (S i).ca.n) (.slice none 0 0)))
 lo:lo<=g
 lanes:∀ i,i<k->g<l i/\w.rowIs (l i) b ((S i).la.n*2) (qn (S i).la)
 cabins:∀ i,i<k->l i<c i/\w.rowIs (c i) a ((S i).ca.n*2) (qn (S i).ca)
 rise:∀ i j,i<j->j<k->c i<l j
theorem zak.below {f d:Nat}{S:Nat->Zj}{l c:Nat->Nat}(r:zak w f e d k lo g N S l c)(b:Below w.heap.size w w'):zak w' f e d k lo g N S l c :=
 ⟨qo r.row b,r.lo,λi a=>⟨(r.lanes i a).1,qo (r.lanes i a).2 b⟩,λi a=>⟨(r.cabins i a).1,qo (r.cabins i a).2 b⟩,r.rise⟩
theorem zak.sails {j h f:Nat}{S:Nat->Zj}{l c:Nat->Nat}(r:zak w j h f N lo g N S l c)(d:∀ i,i<N->(S i).la.n<=1048576)(b:∀ i,i<N->(S i).ca.n<=1048576):qB w (some ⟨g,0,none⟩) N S:=by
 intro k a;refine⟨g,0,_,_,_,_,rfl,?_,?_,?_,?_,?_,?_,?_,?_,zG.of_row (r.lanes k a).2,zG.of_row (r.cabins k a).2,⟨Jr _,by have:=d k a;omega,by intro e;cases e⟩,⟨Jr _,by have:=b k a;omega,by intro e;cases e⟩⟩
 ·rw[Nat.zero_add,r.row.cell (by omega),zcd,qr _ _ a]
 ·rw[Nat.zero_add,r.row.cell (by omega),zce,qr _ _ a]
 ·rw[Nat.zero_add,r.row.cell (by omega),zcf,qr _ _ a]
 ·rw[Nat.zero_add,r.row.cell (by omega),zcg,qr _ _ a]
 ·rw[Nat.zero_add,r.row.cell (by omega),zch,qr _ _ a]
 ·rw[Nat.zero_add,r.row.cell (by omega),Q2,qr _ _ a];rfl
 ·rw[Nat.zero_add,r.row.cell (by omega),Q4,qr _ _ a];rfl
 ·rw[Nat.zero_add,r.row.cell (by omega),zci,qr _ _ a]
theorem zak.step {s q p:Nat}{S:Nat->Zj}{l c:Nat->Nat}(r:zak w s q p k lo g N S l c)(t:g<a)(n:a<b)
  (f:∀ i,i<k->c i<a) (h:w.rowIs a q ((S k).la.n*2) (qn (S k).la)) (m:w.rowIs b p ((S k).ca.n*2) (qn (S k).ca)) :
  zak (zjz w g (k*8) (int i64 (S k).id) (.string (S k).fr) (.string (S k).dst) (int i64 (S k).dep) (int i64 (S k).arr) (ZY a (S k).la.n) (ZY b (S k).ca.n) (int i64 (S k).most)) s q p (k+1) lo g N S (at_ l k a) (at_ c k b):=by
 refine⟨?_,r.lo,λi d=>?_,λi d=>?_,λi j o hj=>?_⟩
 ·have:=zmz (S':=zbJ _ S _) (ls':=zbJ (k+1) (λi=>ZY (at_ l k a i) (S i).la.n) (.slice _ 0 0)) (cs':=zbJ (k+1) (λi=>ZY (at_ c k b i) (S i).ca.n) (.slice _ 0 0)) r.row (λi e=>QB _ _ _ _ e)
   (λi e=>by unfold zbJ;by_cases d:i<k
           ·rw[Jf d,Jf (by omega)];simp only[zjC _ _ _ _ e]
           ·rw[Je d,Je (by omega)])
   (λi e=>by unfold zbJ;by_cases d:i<k
           ·rw[Jf d,Jf (by omega)];simp only[zjC _ _ _ _ e]
           ·rw[Je d,Je (by omega)])
  rw[qr _ _ (Nat.lt_succ_self k),qr _ _ (Nat.lt_succ_self k),qr _ _ (Nat.lt_succ_self k),zmP,zmP] at this;exact this
 ·by_cases e:i=k
  ·subst e;rw[zmP];exact⟨t,zdI h (by omega)⟩
  ·rw[zjC _ _ _ _ e];have:=r.lanes i (by omega);exact⟨this.1,zdI this.2 (by omega)⟩
 ·by_cases e:i=k
  ·subst e;rw[zmP,zmP];exact⟨n,zdI m (by omega)⟩
  ·rw[zjC _ _ _ _ e,zjC _ _ _ _ e];have h1:=r.lanes i (by omega);have h2:=r.cabins i (by omega);exact⟨h2.1,zdI h2.2 (by omega)⟩
 ·by_cases e:j=k
  ·subst e;rw[zmP,zjC _ _ _ _ (by omega)];exact f i (by omega)
  ·rw[zjC _ _ _ _ e,zjC _ _ _ _ (by omega)];exact r.rise i j o (by omega)
def qX (P:Prop)(e:Ending):Prop:=∃ b:Bool,e=.returned (.bool b)/\(b=true↔P)
theorem zR {P:Prop}(h:P):qX P (.returned (.bool true)):=⟨true,rfl,⟨λ_=>h,λ_=>rfl⟩⟩
theorem zl {P:Prop}(h:¬ P):qX P (.returned (.bool false)):=⟨false,rfl,⟨λe=>(by cases e),λp=>absurd p h⟩⟩
def zll (P:Prop)(c:Value):Prop:=∃ b:Bool,c=.bool b/\(b=false↔P)
theorem QP {P:Prop}(h:¬ P):zll P (.bool true):=⟨true,rfl,⟨λe=>(by cases e),λp=>absurd p h⟩⟩
theorem Q5 {P:Prop}(h:P):zll P (.bool false):=⟨false,rfl,⟨λ_=>h,λ_=>rfl⟩⟩
end
def zoy (s:Zj)(B:Nat):Prop:=s.fr.size<=B/\s.dst.size<=B/\s.la.n<=B/\s.ca.n<=B
def QL (N:Nat)(S:Nat->Zj)(B:Nat):Prop:=∀ i,i<N->zoy (S i) B
theorem Tryz.infoLane:(Tryz.prog.info? 223).map (λi=>(i.zero,i.size,i.bytes))=some (some (.agg #[int i64 0,int i64 0]),2,16):=by kernel_rfl
theorem Tryz.infoCabin:(Tryz.prog.info? 231).map (λi=>(i.zero,i.size,i.bytes))=some (some (.agg #[int i64 0,int i64 0]),2,16):=by kernel_rfl
theorem Tryz.infoSailing:(Tryz.prog.info? 140).map (λi=>(i.zero,i.size,i.bytes))=some (some (.agg #[int i64 0,.string ⟨#[]⟩,.string ⟨#[]⟩,int i64 0,int i64 0,.slice none 0 0,.slice none 0 0,int i64 0]),8,112):=by kernel_rfl
section
open Go.RowKit
variable{w w':World}{b base e size n k i g N a c:Nat}{o:Obj}{S:Nat->Prop}{v v1 v2:Value}{d:List Value}{f:Nat->Value}
theorem zK (h:w.heap[b]?=some o):w.drew.heap[b]?=some o:=h
structure zx (w w':World)(S:Nat->Prop):Prop where
 os:w'.os=w.os
 tape:w'.tape=w.tape
 output:w'.output=w.output
 size:w.heap.size<=w'.heap.size
 block:∀ k,k<w.heap.size->¬ S k->w'.heap[k]?=w.heap[k]?
theorem zx.refl (w:World)(S:Nat->Prop):zx w w S:=⟨rfl,rfl,rfl,Jr _,λ_ _ _=>rfl⟩
theorem zx.trans {a:World}(h:zx w w' S)(k:zx w' a S):zx w a S :=
 ⟨k.os.trans h.os,k.tape.trans h.tape,k.output.trans h.output,Jp h.size k.size,λi b c=>(k.block i (Nat.lt_of_lt_of_le b h.size) c).trans (h.block i b c)⟩
theorem zx.mono {T:Nat->Prop}(h:zx w w' S)(b:∀ k,S k->T k):zx w w' T:=⟨h.os,h.tape,h.output,h.size,λi a c=>h.block i a λs=>c (b i s)⟩
theorem zx.of_below (h:Below w.heap.size w w'):zx w w' S:=⟨h.os,h.tape,h.output,h.size,λi a _=>h.block i a⟩
theorem zx.set (h:zx w w' S){a:Addr}(b:S a.block)(u:Value):zx w (w'.setCell a u) S :=
 h.trans ⟨rfl,rfl,rfl,by simp,λk _ c=>Below.heap_setCell _ _ _ _ (λe=>c (e ▸ b))⟩
theorem zx.below {B:Nat}{a:World}(b:Below B a w)(hB:B<=w.heap.size)(h:zx w w' S)(c:∀ k,S k->B<=k):Below B a w' :=
 b.trans ⟨h.os,h.tape,h.output,h.size,λk hk=>h.block k (by omega) (λs=>by have:=c k s;omega)⟩
theorem zx.blk (h:zx w w' S)(a:w.heap[b]?=some o)(c:¬ S b):w'.heap[b]?=some o:=(h.block b (zM a) c).trans a
theorem zx.own (h:zx w w' S)(c:w.ownsRow base e size v n d)(k:∀ g,v.ownBlock=some g->¬ S g):w'.ownsRow base e size v n d:=by
 refine⟨c.1,?_⟩
 rcases c.2 with f|⟨g,a,b,rfl,i,j,rest⟩
 ·exact .inl f
 ·exact .inr ⟨g,a,b,rfl,i,h.blk j (k g rfl),rest⟩
theorem zo (h:Below w.heap.size w w'){a:List Value}(b:w.ownsRow base e size v n a):w'.ownsRow base e size v n a :=
 (zx.of_below (S:=λ_=>False) h).own b (λ_ _ h=>h)
theorem zI {h m f l:Nat}{o p:List Value}(h1:w.ownsRow h e m v1 k o)(h2:w.ownsRow i f n v2 l p)(c:e≠f):∀ g,v1.ownBlock=some g->v2.ownBlock≠some g:=by
 intro g a b
 rcases h1.2 with⟨rfl,_⟩|⟨g1,c1,r1,rfl,_,j,_⟩
 ·simp[Value.ownBlock] at a
 ·rcases h2.2 with⟨rfl,_⟩|⟨g2,c2,r2,rfl,_,d,_⟩
  ·simp[Value.ownBlock] at b
  ·simp only[Value.ownBlock,Option.some.injEq] at a b
   subst a;subst b;rw[j] at d;simp at d;exact c d.2
theorem Zz (h:w.rowIs g e (n*size) f)(a:base<=g)(j:n<=maxLen):w.ownsRow base e size (.slice (some ⟨g,0,none⟩) n n) n ((List.range (n*size)).map f):=by
 obtain⟨c,d,k,b⟩:=h;refine⟨by simp,.inr ⟨g,n,c,rfl,a,d,Jr _,j,k,?_⟩⟩
 apply List.ext_getElem?
 intro i;rw[List.getElem?_take]
 by_cases hi:i<n*size
 ·rw[Jf hi,List.getElem?_map,List.getElem?_range hi,Array.getElem?_toList,b i hi];rfl
 ·rw[Je hi,List.getElem?_eq_none (by simpa using hi)]
theorem range_set {j:Nat}{u:Value}:((List.range N).map f).set j u=(List.range N).map (λi=>if i=j then u else f i):=by
 apply List.ext_getElem?
 intro i;rw[List.getElem?_set,List.getElem?_map,List.getElem?_map,List.length_map,List.length_range]
 by_cases hi:i<N
 ·rw[List.getElem?_range hi]
  by_cases e:j=i
  ·subst e;simp[hi]
  ·rw[Je e];simp[show ¬ i=j from λh=>e h.symm]
 ·rw[List.getElem?_eq_none (by simpa using hi)]
  by_cases e:j=i
  ·subst e;simp[hi]
  ·rw[Je e];rfl
theorem zL (h:w.ownsRow base e size (.slice (some ⟨g,0,none⟩) n a) n ((List.range N).map f))(j:Nat)(u:Value) :
  (w.setCell ⟨g,j,none⟩ u).ownsRow base e size (.slice (some ⟨g,0,none⟩) n a) n ((List.range N).map (λi=>if i=j then u else f i)):=by
 have:=(h.stored j u).1
 rwa [range_set] at this
theorem qR {a:Nat->Value}(h:w.ownsRow base e size v n ((List.range N).map f))(b:∀ i,i<N->f i=a i):w.ownsRow base e size v n ((List.range N).map a):=by
 have:_=(List.range N).map a:=List.map_congr_left λi c=>b i (by simpa using c)
 rwa [this] at h
theorem zs (h:w.ownsRow base e size (.slice (some ⟨g,0,none⟩) n a) n ((List.range N).map f))(j:Nat)(b:j<n*size)(hN:N=n*size):w.cell? ⟨g,j,none⟩=some (f j):=by
 rw[h.cellAt j b,List.getElem?_map,List.getElem?_range (by omega)];rfl
theorem qh {a:Option Addr}{f:List Value}(h:w.ownsRow base e size (.slice a n c) n f)(d:0<n):∃ g,a=some ⟨g,0,none⟩/\base<=g/\g<w.heap.size:=by
 obtain⟨g,b,e,h1,h2⟩:=h.form d;simp only[Value.slice.injEq,true_and] at e;exact⟨g,e.1,h1,h2⟩
end
section
open Go.RowKit
variable{g t n b sz k N:Nat}{f:Nat->Value}{S:Nat->Prop}{w w':World}
def zZ (sz:Nat)(C:Nat->List Value)(j:Nat):Value:=(C (j / sz)).getD (j % sz) (.bool false)
theorem zC (sz:Nat)(C:Nat->List Value)(k j:Nat)(a:j<sz):zZ sz C (k*sz+j)=(C k).getD j (.bool false):=by
 unfold zZ;have b:0<sz:=by omega
 rw[show(k*sz+j) / sz=k by rw[Nat.add_comm,Nat.add_mul_div_right _ _ b,Nat.div_eq_of_lt a,Nat.zero_add],show(k*sz+j) % sz=j by rw[Nat.add_comm,Nat.add_mul_mod_self_right,Nat.mod_eq_of_lt a]]
def qH (w:World)(g:Nat):Nat->List Value->World
 | _,[]=>w
 | o,v :: vs=>qH (w.setCell ⟨g,o,none⟩ v) g (o+1) vs
theorem qD {x:Nat}(a:x≠g):∀ (b:List Value)(o:Nat)(w:World),w.rowIs x t n f->(qH w g o b).rowIs x t n f
 | [],_,_,h=>h
 | v :: r,o,_,h=>qD a r (o+1) _ (h.setOther (by exact a) v)
theorem qe {x:Obj}(a:b≠g):∀ (c:List Value)(o:Nat)(w:World),w.heap[b]?=some x->(qH w g o c).heap[b]?=some x
 | [],_,_,h=>h
 | v :: r,o,_,h=>qe a r (o+1) _ (zD h o v a)
theorem qZ {a:World}(b:a.heap.size<=g):∀ (c:List Value)(o:Nat)(w:World),Below a.heap.size a w->Below a.heap.size a (qH w g o c)
 | [],_,_,h=>h
 | v :: r,o,_,h=>qZ b r (o+1) _ (h.setCell (by exact b) v)
theorem zdf {c:World}(b:S g):∀ (d:List Value)(o:Nat)(w:World),zx c w S->zx c (qH w g o d) S
 | [],_,_,h=>h
 | v :: r,o,_,h=>zdf b r (o+1) _ (h.set (a:=⟨g,o,none⟩) b v)
theorem zdg (g:Nat):∀ (a:List Value)(o:Nat)(w:World),(qH w g o a).heap.size=w.heap.size
 | [],_,_=>rfl
 | v :: r,o,w=>by rw[qH,zdg g r _,World.size_setCell]
theorem zgi:∀ (a:List Value)(o:Nat)(w:World)(f:Nat->Value),w.rowIs b t n f->(qH w b o a).rowIs b t n (λj=>if o<=j/\j<o+a.length then a.getD (j - o) (.bool false) else f j)
 | [],o,w,f,h=>h.congr (λj _=>by rw[Je (by simp)])
 | v :: r,o,w,f,h=>by
  have c:=zgi r (o+1) _ _ (h.set o v);refine c.congr (λj _=>?_)
  by_cases h1:j=o
  ·subst h1
   rw[Je (by omega),Jf rfl,Jf (by simp),Nat.sub_self]
   rfl
  ·by_cases h2:o+1<=j/\j<o+1+r.length
   ·rw[Jf h2,Jf (by simp;omega),show j - o=(j - (o+1))+1 by omega]
    simp
   ·rw[Je h2,Je h1,Je (by simp;omega)]
theorem rec_set {C c:Nat->List Value}{b:List Value}(h:w.rowIs g t n (zZ sz C))(m:b.length=sz)(d:0<sz)(f:∀ i,i≠k->c i=C i)(l:c k=b) :
  (qH w g (k*sz) b).rowIs g t n (zZ sz c):=by
 refine(zgi b _ w _ h).congr λj _=>?_
 by_cases e:j / sz=k
 ·have h1:k*sz<=j:=by rw[← e];exact Nat.div_mul_le_self j sz
  have h2:=by
   have:=Nat.lt_div_mul_add d (a:=j);rw[e] at this;exact this
  rw[Jf ⟨h1,by omega⟩]
  unfold zZ;rw[e,l,show j % sz=j - k*sz by have:=Nat.div_add_mod j sz;rw[e,Nat.mul_comm] at this;omega]
 ·rw[Je (by
   rintro⟨h1,h2⟩
   apply e
   rw[m] at h2;have:j=(j - k*sz)+k*sz:=by omega
   rw[this,Nat.add_mul_div_right _ _ d,Nat.div_eq_of_lt (by omega),Nat.zero_add])]
  unfold zZ;rw[f _ e]
def QT (w:World)(a:Option Addr)(N sz:Nat)(C:Nat->List Value):Prop :=
 ∀ k,k<N->∃ b off,a=some ⟨b,off,none⟩/\∀ j,j<sz->w.cell? ⟨b,off+k*sz+j,none⟩=some ((C k).getD j (.bool false))
theorem QT.below {a:Option Addr}{C:Nat->List Value}(h:QT w a N sz C)(f:Below w.heap.size w w'):QT w' a N sz C:=by
 intro k g;obtain⟨b,off,e,c⟩:=h k g;exact⟨b,off,e,λj d=>(f.cell (Ja w _ (c j d))).trans (c j d)⟩
theorem QT.of_row {C:Nat->List Value}(h:w.rowIs g t (N*sz) (zZ sz C)):QT w (some ⟨g,0,none⟩) N sz C:=by
 intro k b;refine⟨g,0,rfl,λj a=>?_⟩
 have:k*sz+j<N*sz:=by
  have h1:(k+1)*sz<=_:=Nat.mul_le_mul_right sz b;rw[Nat.add_mul] at h1
  omega
 rw[Nat.zero_add,h.cell this,zC sz C k j a]
theorem QT.upto {a:Option Addr}{M:Nat}{C:Nat->List Value}(h:QT w a N sz C)(hM:M<=N):QT w a M sz C:=λk hk=>h k (by omega)
theorem zes {z:Array Value}(b:z.size=sz)(n j:Nat)(d:j<n*sz):(madeCells z (n*sz)).toList.getD j (.bool false)=zZ sz (λ_=>z.toList) j:=by
 have c:0<sz:=by rcases Nat.eq_zero_or_pos sz with h|h;subst h;omega;exact h
 simp only[madeCells,Array.toList_map,List.getD_eq_getElem?_getD,List.getElem?_map,Array.toList_range,List.getElem?_range d,Option.map_some,Option.getD_some];unfold zZ;rw[List.getD_eq_getElem?_getD];have a:j % sz<z.size:=by rw[b];exact Nat.mod_lt _ c
 simp[b];rw[getElem!_pos z _ a,Array.getElem?_eq_getElem a]
 rfl
end
section
open Go.RowKit
variable{w w':World}{cs:List Value}{x:OpD}{lo c b:Nat}{S:Nat->Prop}
structure OpD where
 kind:Int
 own:ByteArray
 name:Int
 lgn:Nat
 lg:Nat->Int
 pe:Int
 len:Int
 hei:Int
 cl:Int
 all:Bool
 be:Int
 unt:Int
 now:Int
def OpD.Is (w:World)(cs:List Value)(x:OpD):Prop :=
 ∃ alg clg,cs=[int i64 x.kind,.string x.own,int i64 x.name,.slice alg x.lgn clg,int i64 x.pe,int i64 x.len,int i64 x.hei,int i64 x.cl,.bool x.all,int i64 x.be,int i64 x.unt,int i64 x.now]/\zT w alg x.lgn x.lg/\qj alg x.lgn clg
theorem OpD.Is.below (h:OpD.Is w cs x)(f:Below w.heap.size w w'):OpD.Is w' cs x:=by
 obtain⟨a,b,e,c,d⟩:=h;exact⟨a,b,e,c.below f,d⟩
def OpD.Short (x:OpD)(B:Nat):Prop:=x.own.size<=B/\x.lgn<=B
def OpD.In (w:World)(lo a:Nat)(cs:List Value)(x:OpD):Prop :=
 ∃ llg,cs=[int i64 x.kind,.string x.own,int i64 x.name,ZY llg x.lgn,int i64 x.pe,int i64 x.len,int i64 x.hei,int i64 x.cl,.bool x.all,int i64 x.be,int i64 x.unt,int i64 x.now]/\(lo<=llg/\llg<a/\w.rowIs llg 3 x.lgn (λk=>int i64 (x.lg k)))
theorem OpD.In.below (h:OpD.In w lo c cs x)(d:Below w.heap.size w w'):OpD.In w' lo c cs x:=by
 obtain⟨b,e,a⟩:=h;exact⟨b,e,⟨a.1,a.2.1,qo a.2.2 d⟩⟩
theorem OpD.In.kept (h:OpD.In w lo c cs x)(g:zx w w' S)(f:∀ b,S b->b<lo∨c<=b):OpD.In w' lo c cs x:=by
 obtain⟨d,e,a⟩:=h;exact⟨d,e,⟨a.1,a.2.1,a.2.2.of_block (g.block _ a.2.2.lt (λs=>by have:=f _ s;omega))⟩⟩
theorem OpD.In.is (h:OpD.In w lo b cs x)(c:OpD.Short x 1048576):OpD.Is w cs x:=by
 obtain⟨d,e,a⟩:=h;obtain⟨_,f⟩:=c;exact⟨_,_,e,zT.of_row a.2.2,⟨Jr _,by omega,λh=>by cases h⟩⟩
end
section
open Go.RowKit
variable{w w':World}{cs:List Value}{lo c b N k a g:Nat}{S:Nat->Prop}
structure ql where
 name:Int
 who:Int
 own:ByteArray
 lgn:Nat
 lg:Nat->Int
 pe:Int
 len:Int
 hei:Int
 cl:Int
 all:Bool
 be:Int
 state:Int
 unt:Int
 price:Int
def ql.Is (w:World)(cs:List Value)(x:ql):Prop :=
 ∃ alg clg,cs=[int i64 x.name,int i64 x.who,.string x.own,.slice alg x.lgn clg,int i64 x.pe,int i64 x.len,int i64 x.hei,int i64 x.cl,.bool x.all,int i64 x.be,int i64 x.state,int i64 x.unt,int i64 x.price]/\zT w alg x.lgn x.lg/\qj alg x.lgn clg
theorem ql.Is.below {x:ql}(h:ql.Is w cs x)(f:Below w.heap.size w w'):ql.Is w' cs x:=by
 obtain⟨a,b,e,c,d⟩:=h;exact⟨a,b,e,c.below f,d⟩
theorem ql.Is.length {x:ql}(h:ql.Is w cs x):cs.length=13:=by
 obtain⟨_,_,rfl,_⟩:=h
 rfl
def ql.Short (x:ql)(B:Nat):Prop:=x.own.size<=B/\x.lgn<=B
def ql.In (w:World)(lo a:Nat)(cs:List Value)(x:ql):Prop :=
 ∃ llg,cs=[int i64 x.name,int i64 x.who,.string x.own,ZY llg x.lgn,int i64 x.pe,int i64 x.len,int i64 x.hei,int i64 x.cl,.bool x.all,int i64 x.be,int i64 x.state,int i64 x.unt,int i64 x.price]/\(lo<=llg/\llg<a/\w.rowIs llg 3 x.lgn (λk=>int i64 (x.lg k)))
theorem ql.In.below {x:ql}(h:ql.In w lo c cs x)(d:Below w.heap.size w w'):ql.In w' lo c cs x:=by
 obtain⟨b,e,a⟩:=h;exact⟨b,e,⟨a.1,a.2.1,qo a.2.2 d⟩⟩
theorem ql.In.wide {lo' hi':Nat}{x:ql}(h:ql.In w lo c cs x)(h1:lo'<=lo)(h2:c<=hi'):ql.In w lo' hi' cs x:=by
 obtain⟨b,e,a⟩:=h;exact⟨b,e,⟨Jp h1 a.1,Nat.lt_of_lt_of_le a.2.1 h2,a.2.2⟩⟩
theorem ql.In.kept {x:ql}(h:ql.In w lo c cs x)(g:zx w w' S)(f:∀ b,S b->b<lo∨c<=b):ql.In w' lo c cs x:=by
 obtain⟨d,e,a⟩:=h;exact⟨d,e,⟨a.1,a.2.1,a.2.2.of_block (g.block _ a.2.2.lt (λs=>by have:=f _ s;omega))⟩⟩
theorem ql.In.is {x:ql}(h:ql.In w lo b cs x)(c:ql.Short x 1048576):ql.Is w cs x:=by
 obtain⟨d,e,a⟩:=h;obtain⟨_,f⟩:=c;exact⟨_,_,e,zT.of_row a.2.2,⟨Jr _,by omega,λh=>by cases h⟩⟩
def qO (w:World)(a:Option Addr)(N:Nat)(S:Nat->ql):Prop:=∃ C,QT w a N 13 C/\∀ k,k<N->ql.Is w (C k) (S k)
theorem qO.below {a:Option Addr}{S:Nat->ql}(h:qO w a N S)(b:Below w.heap.size w w'):qO w' a N S:=by
 obtain⟨C,h1,h2⟩:=h;exact⟨C,h1.below b,λk c=>(h2 k c).below b⟩
def Z2 (N:Nat)(S:Nat->ql)(B:Nat):Prop:=∀ i,i<N->ql.Short (S i) B
structure zao (w:World)(k lo a g N:Nat)(S:Nat->ql)(C:Nat->List Value):Prop where
 row:w.rowIs g 150 (N*13) (zZ 13 (zbJ k C (#[int i64 0,int i64 0,.string ⟨#[]⟩,.slice none 0 0,int i64 0,int i64 0,int i64 0,int i64 0,.bool false,int i64 0,int i64 0,int i64 0,int i64 0]:Array Value).toList))
 glo:lo<=g
 ghi:g<a
 each:∀ i,i<k->ql.In w (g+1) a (C i) (S i)
theorem zao.below {S:Nat->ql}{C:Nat->List Value}(r:zao w k lo a g N S C)(b:Below w.heap.size w w'):zao w' k lo a g N S C :=
 ⟨qo r.row b,r.glo,r.ghi,λi a=>(r.each i a).below b⟩
theorem zao.wide {lo' hi':Nat}{S:Nat->ql}{C:Nat->List Value}(r:zao w k lo a g N S C)(h1:lo'<=lo)(h2:a<=hi'):zao w k lo' hi' g N S C :=
 ⟨r.row,Jp h1 r.glo,Nat.lt_of_lt_of_le r.ghi h2,λi a=>(r.each i a).wide (Jr _) h2⟩
theorem zao.kept {S:Nat->ql}{C:Nat->List Value}{T:Nat->Prop}(r:zao w k lo a g N S C)(d:zx w w' T)(c:∀ b,T b->b<lo∨a<=b):zao w' k lo a g N S C :=
 ⟨r.row.of_block (d.block _ r.row.lt (λs=>by have:=c _ s;have:=r.glo;have:=r.ghi;omega)),r.glo,r.ghi,λi a=>(r.each i a).kept d (λb s=>by have:=c b s;have:=r.glo;omega)⟩
theorem zao.at {S:Nat->ql}{C:Nat->List Value}(r:zao w N lo b g N S C)(c:Z2 N S 1048576):qO w (some ⟨g,0,none⟩) N S:=by
 refine⟨_,QT.of_row r.row,λk a=>?_⟩
 rw[qr _ _ a];exact(r.each k a).is (c k a)
end
end Go.Proofs.YtmdnjgihooflfaaGreatDoor

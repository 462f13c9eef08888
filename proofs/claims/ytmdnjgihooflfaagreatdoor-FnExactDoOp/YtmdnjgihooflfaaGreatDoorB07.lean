/-
  OWN TEXT: SettA, KitAt, Plain3, KitB, KitBks, KitRs, CloneI.
-/
import Derived.Deep.DeepCutAuto
import Derived.Test.YtmdnjgihooflfaaGreatDoorRows
import Derived.Deep.LoopGhost
import Derived.Lib.SliceRun
import Derived.Test.YtmdnjgihooflfaaGreatDoorB06
namespace Go.Proofs.YtmdnjgihooflfaaGreatDoor
open Go.RowKit
open Go.Value (int)
open Go.IntKind (i64)
set_option maxHeartbeats 64000000
set_option maxRecDepth 100000
theorem zcG (y:OpD)(a:Option Addr)(b:Nat)(w:World)(p:Zq w)(q:Zu w)(h:QU ⟨y.pe,y.len,y.hei,y.cl,y.all,y.be⟩ y.lgn) :
  Calls Tryz.prog 202 #[.agg #[int i64 y.kind,.string y.own,int i64 y.name,.slice a y.lgn b,int i64 y.pe,int i64 y.len,int i64 y.hei,int i64 y.cl,.bool y.all,int i64 y.be,int i64 y.unt,int i64 y.now]] w fun e w'=>e=.returned (int i64 (zE ⟨y.pe,y.len,y.hei,y.cl,y.all,y.be⟩ y.lgn))/\Below w.heap.size w w':=by
 have c:Below w.heap.size w (w.alloc (.cells #[int i64 y.kind,.string y.own,int i64 y.name,.slice a y.lgn b,int i64 y.pe,int i64 y.len,int i64 y.hei,int i64 y.cl,.bool y.all,int i64 y.be,int i64 y.unt,int i64 y.now] 47)):=zk bZ _;have d:=heap_alloc_new w (.cells #[int i64 y.kind,.string y.own,int i64 y.name,.slice a y.lgn b,int i64 y.pe,int i64 y.len,int i64 y.hei,int i64 y.cl,.bool y.all,int i64 y.be,int i64 y.unt,int i64 y.now] 47);go_enter Tryz.func202,Tryz.ntmps202;go_upto_region 1 with fail;generalize w.alloc (.cells #[int i64 y.kind,.string y.own,int i64 y.name,.slice a y.lgn b,int i64 y.pe,int i64 y.len,int i64 y.hei,int i64 y.cl,.bool y.all,int i64 y.be,int i64 y.unt,int i64 y.now] 47)=V at c d ⊢;have i:=za d 3 _ rfl;have j:=za d 4 _ rfl;have k:=za d 5 _ rfl;have l:=za d 6 _ rfl;have m:=za d 7 _ rfl;have n:=za d 8 _ rfl;have o:=za d 9 _ rfl;go_wp2_with fail;clear i j k l m n o;refine(ziw y.pe y.len y.hei y.cl y.all y.be y.lgn V (p.below c) (q.below c)).mono ?_;rintro e W ⟨hr,f⟩;have g:e=.returned (.tuple #[int i64 (zE ⟨y.pe,y.len,y.hei,y.cl,y.all,y.be⟩ y.lgn),.bool true]):=by unfold zdJ at hr;rw[if_pos h,decide_eq_true h] at hr;exact hr
 subst g;clear hr;go_wp2;go_ret;exact⟨rfl,ze c f⟩
def zne (b:ql)(dep:Int)(y:OpD):Int:=if y.kind=4 then b.price else if y.kind=5 then zE ⟨y.pe,y.len,y.hei,y.cl,y.all,y.be⟩ y.lgn else if y.kind=6 then Z6 b.price (dep - y.now) else 0
theorem told_any (b:ql)(d:Option Addr)(c:Nat)(dep:Int)(y:OpD)(a:Option Addr)(f:Nat)(w:World)(u:Zq w)(v:Zu w)(n:y.kind=5->QU ⟨y.pe,y.len,y.hei,y.cl,y.all,y.be⟩ y.lgn)(l:In dep 0 1000000/\(y.kind=6->In y.now 0 1000000)) :
  Calls Tryz.prog 206 #[.agg #[int i64 b.name,int i64 b.who,.string b.own,.slice d b.lgn c,int i64 b.pe,int i64 b.len,int i64 b.hei,int i64 b.cl,.bool b.all,int i64 b.be,int i64 b.state,int i64 b.unt,int i64 b.price],int i64 dep,.agg #[int i64 y.kind,.string y.own,int i64 y.name,.slice a y.lgn f,int i64 y.pe,int i64 y.len,int i64 y.hei,int i64 y.cl,.bool y.all,int i64 y.be,int i64 y.unt,int i64 y.now]] w fun e w'=>e=.returned (int i64 (zne b dep y))/\Below w.heap.size w w':=by
 have g:Below w.heap.size w ((w.alloc (.cells #[int i64 b.name,int i64 b.who,.string b.own,.slice d b.lgn c,int i64 b.pe,int i64 b.len,int i64 b.hei,int i64 b.cl,.bool b.all,int i64 b.be,int i64 b.state,int i64 b.unt,int i64 b.price] 150)).alloc (.cells #[int i64 y.kind,.string y.own,int i64 y.name,.slice a y.lgn f,int i64 y.pe,int i64 y.len,int i64 y.hei,int i64 y.cl,.bool y.all,int i64 y.be,int i64 y.unt,int i64 y.now] 47)):=zk (zk bZ _) _;have k:((w.alloc (.cells #[int i64 b.name,int i64 b.who,.string b.own,.slice d b.lgn c,int i64 b.pe,int i64 b.len,int i64 b.hei,int i64 b.cl,.bool b.all,int i64 b.be,int i64 b.state,int i64 b.unt,int i64 b.price] 150)).alloc (.cells #[int i64 y.kind,.string y.own,int i64 y.name,.slice a y.lgn f,int i64 y.pe,int i64 y.len,int i64 y.hei,int i64 y.cl,.bool y.all,int i64 y.be,int i64 y.unt,int i64 y.now] 47)).heap[w.heap.size]?=some (.cells #[int i64 b.name,int i64 b.who,.string b.own,.slice d b.lgn c,int i64 b.pe,int i64 b.len,int i64 b.hei,int i64 b.cl,.bool b.all,int i64 b.be,int i64 b.state,int i64 b.unt,int i64 b.price] 150 (0,0)):=zd (heap_alloc_new w _) _;have h:((w.alloc (.cells #[int i64 b.name,int i64 b.who,.string b.own,.slice d b.lgn c,int i64 b.pe,int i64 b.len,int i64 b.hei,int i64 b.cl,.bool b.all,int i64 b.be,int i64 b.state,int i64 b.unt,int i64 b.price] 150)).alloc (.cells #[int i64 y.kind,.string y.own,int i64 y.name,.slice a y.lgn f,int i64 y.pe,int i64 y.len,int i64 y.hei,int i64 y.cl,.bool y.all,int i64 y.be,int i64 y.unt,int i64 y.now] 47)).heap[w.heap.size+1]?=some (.cells #[int i64 y.kind,.string y.own,int i64 y.name,.slice a y.lgn f,int i64 y.pe,int i64 y.len,int i64 y.hei,int i64 y.cl,.bool y.all,int i64 y.be,int i64 y.unt,int i64 y.now] 47 (0,0)):=by simpa using heap_alloc_new (w.alloc (.cells #[int i64 b.name,int i64 b.who,.string b.own,.slice d b.lgn c,int i64 b.pe,int i64 b.len,int i64 b.hei,int i64 b.cl,.bool b.all,int i64 b.be,int i64 b.state,int i64 b.unt,int i64 b.price] 150)) _
 unfold zne
 by_cases k4:y.kind=4
 ·have r:(y.kind == 4)=true:=by simpa using k4
  rw[if_pos k4];clear k4 n l;go_enter Tryz.func206,Tryz.ntmps206;go_upto_region 1 with fail;generalize (w.alloc (.cells #[int i64 b.name,int i64 b.who,.string b.own,.slice d b.lgn c,int i64 b.pe,int i64 b.len,int i64 b.hei,int i64 b.cl,.bool b.all,int i64 b.be,int i64 b.state,int i64 b.unt,int i64 b.price] 150)).alloc (.cells #[int i64 y.kind,.string y.own,int i64 y.name,.slice a y.lgn f,int i64 y.pe,int i64 y.len,int i64 y.hei,int i64 y.cl,.bool y.all,int i64 y.be,int i64 y.unt,int i64 y.now] 47)=V at g k h ⊢;have o:=za h 0 _ rfl;have m:=za k 12 _ rfl;go_wp2;go_ret;exact⟨rfl,g⟩
 have r:(y.kind == 4)=false:=by simpa using k4
 rw[if_neg k4]
 by_cases k5:y.kind=5
 ·have s:(y.kind == 5)=true:=by simpa using k5
  have q:=hI (n k5);rw[if_pos k5];clear k4 k5 n l;go_enter Tryz.func206,Tryz.ntmps206;go_upto_region 1 with fail;generalize (w.alloc (.cells #[int i64 b.name,int i64 b.who,.string b.own,.slice d b.lgn c,int i64 b.pe,int i64 b.len,int i64 b.hei,int i64 b.cl,.bool b.all,int i64 b.be,int i64 b.state,int i64 b.unt,int i64 b.price] 150)).alloc (.cells #[int i64 y.kind,.string y.own,int i64 y.name,.slice a y.lgn f,int i64 y.pe,int i64 y.len,int i64 y.hei,int i64 y.cl,.bool y.all,int i64 y.be,int i64 y.unt,int i64 y.now] 47)=V at g k h ⊢;obtain⟨o,x,z,A,B,C,D,E,F,G,p,j⟩:=zeW h;go_wp2_with fail;clear o x z A B C D E F G p j;refine(zcG y a f V (u.below g) (v.below g) q.out).mono ?_;rintro e W ⟨rfl,i⟩;go_wp2;go_ret;exact⟨rfl,ze g i⟩
 have s:(y.kind == 5)=false:=by simpa using k5
 rw[if_neg k5]
 by_cases k6:y.kind=6
 ·have t:(y.kind == 6)=true:=by simpa using k6
  have hw:IntKind.i64.wrap (dep - y.now)=dep - y.now:=by have h1:=l.1;have h2:=l.2 k6;unfold In at h1 h2;rw[IntKind.wrap_i64];omega
  rw[if_pos k6];clear k4 k5 k6 n l;go_enter Tryz.func206,Tryz.ntmps206;go_upto_region 1 with fail;generalize (w.alloc (.cells #[int i64 b.name,int i64 b.who,.string b.own,.slice d b.lgn c,int i64 b.pe,int i64 b.len,int i64 b.hei,int i64 b.cl,.bool b.all,int i64 b.be,int i64 b.state,int i64 b.unt,int i64 b.price] 150)).alloc (.cells #[int i64 y.kind,.string y.own,int i64 y.name,.slice a y.lgn f,int i64 y.pe,int i64 y.len,int i64 y.hei,int i64 y.cl,.bool y.all,int i64 y.be,int i64 y.unt,int i64 y.now] 47)=V at g k h ⊢;have o:=za h 0 _ rfl;have j:=za h 11 _ rfl;have m:=za k 12 _ rfl;go_wp2_with fail;refine(zhz b.price (dep - y.now) V).mono ?_;rintro e W ⟨rfl,i⟩;clear o j m;go_wp2;go_ret;exact⟨rfl,ze g i⟩
 ·have t:(y.kind == 6)=false:=by simpa using k6
  rw[if_neg k6];clear k4 k5 k6 n l;go_enter Tryz.func206,Tryz.ntmps206;go_upto_region 1 with fail;generalize (w.alloc (.cells #[int i64 b.name,int i64 b.who,.string b.own,.slice d b.lgn c,int i64 b.pe,int i64 b.len,int i64 b.hei,int i64 b.cl,.bool b.all,int i64 b.be,int i64 b.state,int i64 b.unt,int i64 b.price] 150)).alloc (.cells #[int i64 y.kind,.string y.own,int i64 y.name,.slice a y.lgn f,int i64 y.pe,int i64 y.len,int i64 y.hei,int i64 y.cl,.bool y.all,int i64 y.be,int i64 y.unt,int i64 y.now] 47)=V at g k h ⊢;have o:=za h 0 _ rfl;go_wp2;go_ret;exact⟨rfl,g⟩
def atV (f:Nat->Value)(q:Nat)(u:Value)(i:Nat):Value:=if i=q then u else f i
theorem qu (f:Nat->Value)(q:Nat)(u:Value):atV f q u q=u:=if_pos rfl
theorem qf (f:Nat->Value)(q:Nat)(u:Value)(i:Nat)(h:i≠q):atV f q u i=f i:=if_neg h
theorem qJ {w w':World}{row:Option Nat}(h:w.grownBy w' row):zx w w' (fun b=>row=some b):=⟨h.os,h.tape,h.output,h.size,fun i a c=>h.block i a (fun e=>c e.symm)⟩
section
def getI (l:List Int)(j:Nat):Int:=l.getD j 0
def zab (l:List Int):List Value:=zS (getI l) l.length
end
theorem zv {P:Program}(w:World){l:Array Oper}{rest:List Oper}{o:Oper}{a:Act}{Q:Exit->Act->World->Prop}
  (A:o.guard=none) (s x:Operand) (t:TypeId) (k:o.op=Op.call { callee:=Callee.builtin Builtin.append,args:=#[s,x],argTypes:=#[t,t] })
  (base:Nat) (e:TypeId) (i:TypeInfo) (z:Value) (size bytes:Nat) (h1:P.underlying t=some (.slice e)) (h2:P.info? e=some i) (h3:i.zero=some z) (G:i.size=size) (H:i.bytes=bytes) (I:z.cells.size=size) (J:0<size)
  (v:Value) (n:Nat) (p:List Value) (C:a.eval s=v) (h:w.ownsRow base e size v n p)
  (sa:Option Addr) (m c:Nat) (b:List Value) (D:a.eval x=.slice sa m c) (g:sa=none->m=0/\c=0) (B:b.length=m*size) (K:∀ ad,sa=some ad->∀ j u,b[j]?=some u->w.cell? (ad.add j)=some u) (q:∀ u ∈ b,u.oneCell'=true)
  (E:n+m<=maxLen) (F:(n+m)*bytes<=140737488355328) (d:base<=w.heap.size)
  (y:∀ v' w',w'.ownsRow base e size v' (n+m) (p++b)->w.grownBy w' v.ownBlock->wpList P l Q rest (a.put o.dst v') w') :
  wpList P l Q (o :: rest) a w:=by
 cases sa with
 | none =>
  obtain⟨rfl,rfl⟩:=g rfl;have f:b=[]:=List.eq_nil_of_length_eq_zero (by simpa using B)
  subst f;refine wpList_append_own_none A s x t k base e i size h1 h2 v n p C h D (y v w ?_ (World.grownBy.refl w _));rw[Nat.add_zero,List.append_nil];exact h
 | some ad =>
  refine wpList_append_own w A s x t k base e i z size bytes h1 h2 h3 G H I J v n p C h ad m c b D B (K ad rfl) q E F d ?_;intro v' w' L r _;exact y v' w' L r
theorem znf {w:World}{d:Option Addr}{c:List Int}(h:zT w d c.length (getI c)):∀ a,d=some a->∀ j u,(zab c)[j]?=some u->w.cell? (a.add j)=some u:=by
 intro a e j u k;obtain⟨i,rfl⟩:=zcD _ _ _ _ k;obtain⟨b,off,f,g⟩:=h j i;rw[e] at f
 cases f
 rw[Addr.add_lit];exact g
theorem zeu (a:List Int):(zab a).length=a.length:=by unfold zab;exact Zn _ _
theorem zhQ (a:List Int):∀ u ∈ zab a,u.oneCell'=true:=Qd _ _
theorem zix (a b:List Int):zab (a++b)=zab a++zab b:=by
 have c:∀ l:List Int,zab l=l.map (fun x=>int i64 x):=by
  intro l;unfold zab zS getI
  apply List.ext_getElem?
  intro i
  by_cases hi:i<l.length
  ·rw[List.getElem?_map,List.getElem?_range hi,List.getElem?_map,List.getElem?_eq_getElem hi]
   simp[List.getD_eq_getElem?_getD,List.getElem?_eq_getElem hi]
  ·rw[List.getElem?_eq_none (by simpa using hi),List.getElem?_eq_none (by simpa using hi)]
 rw[c,c,c,List.map_append]
theorem own_legs {w:World}{base e c:Nat}{b:Option Addr}{a:List Int}{n:Nat}(d:a.length=n)(h:w.ownsRow base e 1 (.slice b n c) n (zab a)):zT w b n (getI a):=by
 subst d;exact zbo h
section
open Go.RowKit
theorem zQ {w:World}{base e size n:Nat}{v:Value}{k:List Value}(h:w.ownsRow base e size v n k){b t:Nat}{cs:Array Value}(a:w.heap[b]?=some (.cells cs t (0,0)))(f:e≠t):∀ g,v.ownBlock=some g->¬ g=b:=by
 rintro g c rfl
 rcases h.2 with⟨rfl,_⟩|⟨g',i,j,rfl,_,d,_⟩
 ·simp[Value.ownBlock] at c
 ·simp only[Value.ownBlock,Option.some.injEq] at c
  subst c;rw[d] at a;simp only[Option.some.injEq,Obj.cells.injEq] at a;exact f a.2.1
def bkC (S:Nat->ql)(L:Nat->Value)(k:Nat):List Value :=
 [int i64 (S k).name,int i64 (S k).who,.string (S k).own,L k,int i64 (S k).pe,int i64 (S k).len,int i64 (S k).hei,int i64 (S k).cl,.bool (S k).all,int i64 (S k).be,int i64 (S k).state,int i64 (S k).unt,int i64 (S k).price]
def zbg (S:Nat->ql)(L:Nat->Value)(N:Nat):List Value:=(List.range (N*13)).map (zZ 13 (bkC S L))
structure ZC (w:World)(base:Nat)(v:Value)(N:Nat)(S:Nat->ql)(L:Nat->Value):Prop where
 row:w.ownsRow base 150 13 v N (zbg S L N)
 legs:∀ i,i<N->w.ownsRow base 3 1 (L i) (S i).lgn (zS (S i).lg (S i).lgn)
 apart:∀ i j,i<j->j<N->∀ b,(L i).ownBlock=some b->(L j).ownBlock≠some b
theorem zfD (sz:Nat)(a:0<sz)(C C':Nat->List Value)(k:Nat)(b:List Value)(hv:b.length=sz)(c:∀ i,i<k->C' i=C i)(e:C' k=b) :
  (List.range ((k+1)*sz)).map (zZ sz C')=(List.range (k*sz)).map (zZ sz C)++b:=by
 apply List.ext_getElem?
 intro j;have h1:((List.range (k*sz)).map (zZ sz C)).length=k*sz:=by simp
 by_cases h:j<k*sz
 ·have f:j / sz<k:=(Nat.div_lt_iff_lt_mul a).2 h
  rw[List.getElem?_append_left (by rw[h1];exact h),List.getElem?_map,List.getElem?_map,List.getElem?_range h,List.getElem?_range (by rw[Nat.add_mul];omega)]
  simp only[Option.map_some];unfold zZ;rw[c _ f]
 ·rw[List.getElem?_append_right (by rw[h1];omega),h1,List.getElem?_map]
  by_cases h2:j<(k+1)*sz
  ·rw[List.getElem?_range h2]
   simp only[Option.map_some];obtain⟨i,rfl⟩:∃ i,j=k*sz+i:=⟨j - k*sz,by omega⟩
   have d:i<sz:=by rw[Nat.add_mul] at h2;omega
   rw[zC sz C' k i d,e,Nat.add_sub_cancel_left,List.getD_eq_getElem?_getD,List.getElem?_eq_getElem (by omega)]
   rfl
  ·rw[List.getElem?_eq_none (by simpa using h2),List.getElem?_eq_none (by rw[Nat.add_mul] at h2;omega)]
   rfl
theorem zng (S:Nat->ql)(L:Nat->Value)(k:Nat)(lv:Value):zbg S (atV L k lv) (k+1)=zbg S L k++bkC S (atV L k lv) k :=
 zfD 13 (by decide) (bkC S L) (bkC S (atV L k lv)) k _ rfl (fun i hi=>by unfold bkC;rw[qf _ _ _ _ (by omega)]) rfl
section
variable {w w' : World} {base : Nat} {v : Value} {N : Nat} {S : Nat -> ql} {L : Nat -> Value}
theorem ZC.below (h:ZC w base v N S L)(a:Below w.heap.size w w'):ZC w' base v N S L :=
 ⟨zo a h.row,fun i b=>zo a (h.legs i b),h.apart⟩
theorem ZC.other {T:Nat->Prop}(h:ZC w base v N S L)(e:zx w w' T)(c:∀ b,T b->∃ cs t,w.heap[b]?=some (.cells cs t (0,0))/\150≠t/\3≠t):ZC w' base v N S L :=
 ⟨e.own h.row (fun g a s=>by obtain⟨cs,t,h1,h2,_⟩:=c g s;exact zQ h.row h1 h2 g a rfl),fun i d=>e.own (h.legs i d) (fun g a s=>by obtain⟨cs,t,h1,_,h2⟩:=c g s;exact zQ (h.legs i d) h1 h2 g a rfl),h.apart⟩
theorem ZC.lower {a b:Nat}(h:ZC w a v N S L)(c:b<=a):ZC w b v N S L :=
 ⟨zu h.row c,fun i d=>zu (h.legs i d) c,h.apart⟩
theorem ZC.nil (w:World)(base:Nat)(S:Nat->ql)(L:Nat->Value):ZC w base (.slice none 0 0) 0 S L :=
 ⟨⟨rfl,.inl ⟨rfl,rfl⟩⟩,fun i a=>by omega,fun i j a hj=>by omega⟩
theorem ZC.is (h:ZC w base v N S L){k:Nat}(a:k<N):ql.Is w (bkC S L k) (S k):=by
 obtain⟨d,f,e,b,l2,c⟩:=zp (h.legs k a);have o:=h.legs k a;rw[e] at o;unfold maxLen at l2;exact⟨d,f,by unfold bkC;rw[e],zbo o,⟨b,by omega,c⟩⟩
theorem ZC.at {a:Option Addr}{c:Nat}(h:ZC w base (.slice a N c) N S L):qO w a N S:=by
 refine⟨bkC S L,fun k b=>?_,fun k b=>h.is b⟩
 obtain⟨g,rfl,_,_⟩:=qh h.row (by omega)
 refine⟨g,0,rfl,fun j d=>?_⟩
 rw[Nat.zero_add,zs h.row (k*13+j) (by omega) rfl,zC 13 _ k j d]
theorem ZC.snoc {k:Nat}{v' lv:Value}{lim:Nat}(h:ZC w base v k S L)(n:∀ i,i<k->∀ b,(L i).ownBlock=some b->b<lim)
  (o:w.ownsRow lim 3 1 lv (S k).lgn (zS (S k).lg (S k).lgn)) (l:base<=lim) (q:w.grownBy w' v.ownBlock)
  (r:w'.ownsRow base 150 13 v' (k+1) (zbg S L k++bkC S (atV L k lv) k)):ZC w' base v' (k+1) S (atV L k lv):=by
 have p:=qJ q;refine⟨by rw[zng];exact r,fun i hi=>?_,fun i j m hj=>?_⟩
 ·by_cases e:i=k
  ·subst e;rw[qu];exact p.own (zu o l) (fun g d f=>zI h.row (zu o l) (by decide) g f d)
  ·rw[qf _ _ _ _ e];exact p.own (h.legs i (by omega)) (fun g d f=>zI h.row (h.legs i (by omega)) (by decide) g f d)
 ·by_cases e:j=k
  ·subst e
   rw[qu,qf _ _ _ _ (by omega)]
   intro b h1 h3;have a:=n i m b h1;have c:=(o.lt b h3).1
   omega
  ·rw[qf _ _ _ _ e,qf _ _ _ _ (by omega)]
   exact h.apart i j m (by omega)
theorem ZC.congr {S':Nat->ql}(h:ZC w base v N S L)(e:∀ i,i<N->S i=S' i):ZC w base v N S' L:=by
 refine⟨?_,fun i a=>by rw[← e i a];exact h.legs i a,h.apart⟩
 have b:zbg S' L N=zbg S L N:=List.map_congr_left fun j c=>by
  have d:j<N*13:=by simpa using c
  unfold zZ bkC;rw[e (j / 13) (by omega)]
 rw[b];exact h.row
end
end
def setC (C:Nat->List Value)(t f:Nat)(v:Value)(i:Nat):List Value:=if i=t then (C t).set f v else C i
theorem Zb (C:Nat->List Value)(t f:Nat)(v:Value):setC C t f v t=(C t).set f v:=if_pos rfl
theorem ziy (C:Nat->List Value){t i:Nat}(f:Nat)(v:Value)(h:i≠t):setC C t f v i=C i:=if_neg h
theorem Zr {w:World}{base e sz g c N:Nat}{C:Nat->List Value}(h:w.ownsRow base e sz (.slice (some ⟨g,0,none⟩) N c) N ((List.range (N*sz)).map (zZ sz C)))(t f:Nat)(v:Value)(hl:(C t).length=sz)(b:f<sz) :
  (w.setCell ⟨g,t*sz+f,none⟩ v).ownsRow base e sz (.slice (some ⟨g,0,none⟩) N c) N ((List.range (N*sz)).map (zZ sz (setC C t f v))):=by
 have h0:0<sz:=by omega
 refine qR (zL h (t*sz+f) v) (fun j _=>?_)
 by_cases e:j=t*sz+f
 ·subst e
  rw[if_pos rfl,zC sz _ t f b,Zb,List.getD_eq_getElem?_getD,List.getElem?_set_self (by omega)]
  rfl
 ·rw[if_neg e]
  unfold zZ
  by_cases e2:j / sz=t
  ·have a:j % sz≠f:=fun a=>e (by have:=Nat.div_add_mod j sz;rw[e2,a,Nat.mul_comm] at this;omega)
   rw[e2,Zb,List.getD_eq_getElem?_getD,List.getD_eq_getElem?_getD,List.getElem?_set_ne (fun h=>a h.symm)]
  ·rw[ziy _ _ _ e2]
theorem zbs {w:World}{base e sz n N:Nat}{v:Value}{C C':Nat->List Value}(h:w.ownsRow base e sz v n ((List.range (N*sz)).map (zZ sz C)))(a:0<sz)(b:∀ i,i<N->C i=C' i):w.ownsRow base e sz v n ((List.range (N*sz)).map (zZ sz C')) :=
 qR h (fun j c=>by unfold zZ;rw[b _ ((Nat.div_lt_iff_lt_mul a).2 c)])
theorem zU {w:World}{base e sz g c N:Nat}{C:Nat->List Value}(h:w.ownsRow base e sz (.slice (some ⟨g,0,none⟩) N c) N ((List.range (N*sz)).map (zZ sz C))){t f:Nat}(d:t<N)(b:f<sz):w.cell? ⟨g,t*sz+f,none⟩=some ((C t).getD f (.bool false)):=by
 have a:t*sz+f<N*sz:=by
  have h1:(t+1)*sz<=N*sz:=Nat.mul_le_mul_right sz d;have h2:(t+1)*sz=t*sz+sz:=Nat.succ_mul t sz
  omega
 rw[zs h (t*sz+f) a rfl,zC sz C t f b]
theorem zlG {w:World}{c:Option Addr}{n:Nat}{F:Nat->Int}(h:zT w c n F):∀ a,c=some a->∀ j u,(zS F n)[j]?=some u->w.cell? (a.add j)=some u:=by
 intro a e j u i;obtain⟨g,rfl⟩:=zcD _ _ _ _ i;obtain⟨b,off,d,f⟩:=h j g;rw[e] at d
 cases d
 rw[Addr.add_lit];exact f
theorem zgp (f:Addr)(n c:Nat)(F:Nat->Int)(w:World)(hn:n<=1048576)(r:zT w (some f) n F) :
  Calls Tryz.prog 212 #[.slice (some f) n c] w fun e w'=>(∃ v,e=.returned v/\w'.ownsRow w.heap.size 3 1 v n (zS F n))/\Below w.heap.size w w':=by
 obtain⟨s,t,i,k,l⟩:=info_parts Tryz.infoInt;have b:Below w.heap.size w (w.alloc (.cells #[] 3)):=zk bZ _;have o:(w.alloc (.cells #[] 3)).ownsRow w.heap.size 3 1 (.slice (some ⟨w.heap.size,0,none⟩) 0 0) 0 []:=⟨rfl,.inr ⟨w.heap.size,0,#[],rfl,Nat.le_refl _,heap_alloc_new w _,Nat.le_refl _,Nat.zero_le _,rfl,rfl⟩⟩;have p:=hI (zlG (r.below b));have qT:∀ (w:World) (a:Option Addr) (n c m c':Nat),(binOp .eql 27 (.slice a n c) (.slice none m c')).run Tryz.prog w=.ok (.bool a.isNone) w:=fun w a n c m c'=>Lib.run_eql_slice_nil w _ _ a n c m c' Tryz.underlying27
 go_enter Tryz.func212,Tryz.ntmps212;go_wp2_with (first|(at_builtin;refine zv _ (by rfl) (.tmp 5) (.tmp 6) 27 (by rfl) w.heap.size 3 s (int i64 0) 1 8 Tryz.underlying27 t i k l rfl (by decide) _ 0 [] (by rfl) o (some f) n c (zS F n) (by rfl) (fun h=>(by cases h)) (by rw[Zn,Nat.mul_one]) p.out (Qd _ _) (by unfold maxLen;omega) (by omega) (by simp) ?_;intro v' w3 d g))
 go_ret;rw[Nat.zero_add,List.nil_append] at d;exact⟨⟨_,rfl,d⟩,b.grown g (by simp) (fun j q=>(o.lt j q).1)⟩
end Go.Proofs.YtmdnjgihooflfaaGreatDoor

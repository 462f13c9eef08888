/-
  OWN TEXT: SettA, KitAt, Plain3, KitB, KitBks, KitRs, CloneI.
-/
import Derived.Deep.DeepCutAuto
import Derived.Test.YtmdnjgihooflfaaGreatDoorKitCo
import Derived.Test.YtmdnjgihooflfaaGreatDoorRows
import Derived.Deep.LoopGhost
import Derived.Lib.SliceRun
import Derived.Test.YtmdnjgihooflfaaGreatDoorB06
namespace Go.Proofs.YtmdnjgihooflfaaGreatDoor
open Go.RowKit
open Go.Value (int)
open Go.IntKind (i64)
open Tryz
set_option maxHeartbeats 64000000
set_option maxRecDepth 100000
theorem zcG (y:OpD)(c:Option Addr)(d:Nat)(w:World)(p:Zq w)(q:Zu w)(h:QU ⟨y.pe,y.len,y.hei,y.cl,y.all,y.be⟩ y.lgn) :
  Calls prog 202 #[.agg (y,c,d)] w λe w'=>e=.returned (zE ⟨y.pe,y.len,y.hei,y.cl,y.all,y.be⟩ y.lgn)/\Below w.heap.size w w':=by
 have a:Below _ w (w.alloc (.cells (y,c,d) 47)):=zk bZ _;have b:=Jb w (.cells (y,c,d) 47);go_enter func202,ntmps202;go_upto_region 1 with fail;generalize w.alloc _=V at a b ⊢;have i:=za b 3 _ rfl;have j:=za b 4 _ rfl;have k:=za b 5 _ rfl;have l:=za b 6 _ rfl;have m:=za b 7 _ rfl;have n:=za b 8 _ rfl;have o:=za b 9 _ rfl;go_wp2_with fail;clear i j k l m n o;refine(ziw _ _ _ _ _ _ _ V (p.below a) (q.below a)).mono ?_;rintro e W ⟨hr,f⟩;have g:=by unfold zdJ at hr;rw[Jf h,Jd h] at hr;exact hr
 subst g;clear hr;go_wp2;go_ret;exact⟨rfl,ze a f⟩
def zne (b:ql)(dep:Int)(y:OpD):Int:=if y.kind=4 then b.price else if y.kind=5 then zE ⟨y.pe,y.len,y.hei,y.cl,y.all,y.be⟩ y.lgn else if y.kind=6 then Z6 b.price (dep - y.now) else 0
theorem told_any (b:ql)(h:Option Addr)(g:Nat)(dep:Int)(y:OpD)(c:Option Addr)(d:Nat)(w:World)(u:Zq w)(v:Zu w)(n:y.kind=5->QU ⟨y.pe,y.len,y.hei,y.cl,y.all,y.be⟩ y.lgn)(l:In dep 0 1000000/\(y.kind=6->In y.now 0 1000000)) :
  Calls prog 206 #[.agg (b,h,g),dep,.agg (y,c,d)] w λe w'=>e=.returned (zne b dep y)/\Below w.heap.size w w':=by
 have a:Below _ w ((w.alloc (.cells (b,h,g) 150)).alloc (.cells (y,c,d) 47)):=zk (zk bZ _) _;have k:((w.alloc _).alloc (.cells (y,c,d) 47)).heap[w.heap.size]?=some (.cells (b,h,g) 150 (0,0)):=zd (Jb w _) _;have f:((w.alloc (.cells (b,h,g) 150)).alloc (.cells (y,c,d) 47)).heap[w.heap.size+1]?=some (.cells (y,c,d) 47 (0,0)):=by simpa using Jb (w.alloc _) _
 unfold zne
 by_cases k4:y.kind=4
 ·have r:(y.kind == 4)=true:=by simpa using k4
  rw[Jf k4];clear k4 n l;go_enter func206,ntmps206;go_upto_region 1 with fail;generalize (w.alloc _).alloc _=V at a k f ⊢;have o:=za f 0 _ rfl;have m:=za k 12 _ rfl;go_wp2;go_ret;exact⟨rfl,a⟩
 have r:(y.kind == 4)=false:=by simpa using k4
 rw[Je k4]
 by_cases k5:y.kind=5
 ·have s:(y.kind == 5)=true:=by simpa using k5
  have q:=hI (n k5);rw[Jf k5];clear k4 k5 n l;go_enter func206,ntmps206;go_upto_region 1 with fail;generalize (w.alloc _).alloc _=V at a k f ⊢;obtain⟨o,x,z,A,B,C,D,E,F,G,p,j⟩:=zeW f;go_wp2_with fail;clear o x z A B C D E F G p j;refine(zcG y c d V (u.below a) (v.below a) q).mono ?_;rintro e W ⟨rfl,i⟩;go_wp2;go_ret;exact⟨rfl,ze a i⟩
 have s:(y.kind == 5)=false:=by simpa using k5
 rw[Je k5]
 by_cases k6:y.kind=6
 ·have t:(y.kind == 6)=true:=by simpa using k6
  have hw:IntKind.i64.wrap (dep - y.now)=dep - y.now:=by have h1:=l.1;have h2:=l.2 k6;unfold In at h1 h2;rw[Jk];omega
  rw[Jf k6];clear k4 k5 k6 n l;go_enter func206,ntmps206;go_upto_region 1 with fail;generalize (w.alloc _).alloc _=V at a k f ⊢;have o:=za f 0 _ rfl;have j:=za f 11 _ rfl;have m:=za k 12 _ rfl;go_wp2_with fail;refine(zhz _ _ V).mono ?_;rintro e W ⟨rfl,i⟩;clear o j m;go_wp2;go_ret;exact⟨rfl,ze a i⟩
 ·have t:(y.kind == 6)=false:=by simpa using k6
  rw[Je k6];clear k4 k5 k6 n l;go_enter func206,ntmps206;go_upto_region 1 with fail;generalize (w.alloc _).alloc _=V at a k f ⊢;have o:=za f 0 _ rfl;go_wp2;go_ret;exact⟨rfl,a⟩
def atV (f:Nat->Value)(q:Nat)(u:Value)(i:Nat):Value:=if i=q then u else f i
theorem qu (f:Nat->Value)(q:Nat)(u:Value):atV f q u q=u:=Jf rfl
theorem qf (f:Nat->Value)(q:Nat)(u:Value)(i:Nat)(h:i≠q):atV f q u i=f i:=Je h
theorem qJ {w w':World}{row:Option Nat}(h:w.grownBy w' row):zx w w' (λb=>row=some b):=⟨h.os,h.tape,h.output,h.size,λi a c=>h.block i a (λe=>c e.symm)⟩
section
def getI (l:List Int)(j:Nat):Int:=l.getD j 0
def zab (l:List Int):List Value:=zS (getI l) l.length
end
theorem zv {P:Program}(w:World){l:Array Oper}{rest:List Oper}{o:Oper}{a:Act}{Q:Exit->Act->World->Prop}
  (B:o.guard=none) (s x:Operand) (t:TypeId) (k:o.op=Op.call { callee:=Callee.builtin Builtin.append,args:=#[s,x],argTypes:=#[t,t] })
  (base:Nat) (e:TypeId) (i:TypeInfo) (z:Value) (size bytes:Nat) (h1:P.underlying t=some (.slice e)) (h2:P.info? e=some i) (h3:i.zero=some z) (H:i.size=size) (I:i.bytes=bytes) (J:z.cells.size=size) (K:0<size)
  (v:Value) (n:Nat) (q:List Value) (D:a.eval s=v) (h:w.ownsRow base e size v n q)
  (sa:Option Addr) (m c:Nat) (b:List Value) (E:a.eval x=.slice sa m c) (g:sa=none->m=0/\c=0) (C:b.length=m*size) (L:∀ ad,sa=some ad->∀ j u,b[j]?=some u->w.cell? (ad.add j)=some u) (r:∀ u ∈ b,u.oneCell'=true)
  (F:n+m<=maxLen) (G:(n+m)*bytes<=140737488355328) (d:base<=w.heap.size)
  (A:∀ p w',w'.ownsRow base e size p (n+m) (q++b)->w.grownBy w' v.ownBlock->wpList P l Q rest (a.put o.dst p) w') :
  wpList P l Q (o :: rest) a w:=by
 cases sa with
 | none =>
  obtain⟨rfl,rfl⟩:=g rfl;have f:=List.eq_nil_of_length_eq_zero (by simpa using C)
  subst f;refine wpList_append_own_none B s x t k _ e i _ h1 h2 v n q D h E (A v w ?_ (World.grownBy.refl w _));rw[Nat.add_zero,List.append_nil];exact h
 | some ad =>
  refine wpList_append_own w B s x t k _ e i z _ _ h1 h2 h3 H I J K v n q D h ad m c _ E C (L ad rfl) r F G d ?_;intro p w' M y _;exact A p w' M y
theorem znf {w:World}{d:Option Addr}{c:List Int}(h:zT w d c.length (getI c)):∀ a,d=some a->∀ j u,(zab c)[j]?=some u->w.cell? (a.add j)=some u:=by
 intro a e j u k;obtain⟨i,rfl⟩:=zcD _ _ _ _ k;obtain⟨b,off,f,g⟩:=h j i;rw[e] at f
 cases f
 rw[Addr.add_lit];exact g
theorem zeu (a:List Int):(zab a).length=a.length:=by unfold zab;exact Zn _ _
theorem zhQ (a:List Int):∀ u ∈ zab a,u.oneCell'=true:=Qd _ _
theorem zix (a b:List Int):zab (a++b)=zab a++zab b:=by
 have c:∀ l,zab l=l.map (λx=>int i64 x):=by
  intro l;unfold zab zS getI
  apply List.ext_getElem?
  intro i
  by_cases hi:i<l.length
  ·rw[List.getElem?_map,List.getElem?_range hi,List.getElem?_map,List.getElem?_eq_getElem hi]
   simp[List.getD_eq_getElem?_getD,List.getElem?_eq_getElem hi]
  ·rw[List.getElem?_eq_none (by simpa using hi),List.getElem?_eq_none (by simpa using hi)]
 rw[c,c,c,List.map_append]
theorem own_legs {w:World}{base e c:Nat}{b:Option Addr}{a:List Int}{n:Nat}(d:a.length=n)(h:w.ownsRow base e 1 (b,n,c) n (zab a)):zT w b n (getI a):=by
 subst d;exact zbo h
section
open Go.RowKit
theorem zQ {w:World}{base e size n:Nat}{v:Value}{k:List Value}(h:w.ownsRow base e size v n k){b t:Nat}{cs:Array Value}(a:w.heap[b]?=some (.cells cs t (0,0)))(f:e≠t):∀ g,v.ownBlock=some g->¬ g=b:=by
 rintro g c rfl
 rcases h.2 with⟨rfl,_⟩|⟨g',i,j,rfl,_,d,_⟩
 ·simp[Value.ownBlock] at c
 ·simp only[Value.ownBlock,Option.some.injEq] at c
  subst c;rw[d] at a;simp only[Option.some.injEq,Obj.cells.injEq] at a;exact f a.2.1
def bkC (S:Nat->ql)(L:Nat->Value)(k:Nat):List Value :=
 [int i64 (S k).name,int i64 (S k).who,.string (S k).own,L k,int i64 (S k).pe,int i64 (S k).len,int i64 (S k).hei,int i64 (S k).cl,.bool (S k).all,int i64 (S k).be,int i64 (S k).state,int i64 (S k).unt,int i64 (S k).price]
def zbg (S:Nat->ql)(L:Nat->Value)(N:Nat):List Value:=(List.range (N*13)).map (zZ 13 (bkC S L))
structure ZC (w:World)(base:Nat)(v:Value)(N:Nat)(S:Nat->ql)(L:Nat->Value):Prop where
 row:w.ownsRow base 150 13 v N (zbg S L N)
 legs:∀ i,i<N->w.ownsRow base 3 1 (L i) (S i).lgn (zS (S i).lg (S i).lgn)
 apart:∀ i j,i<j->j<N->∀ b,(L i).ownBlock=some b->(L j).ownBlock≠some b
theorem zfD (sz:Nat)(b:0<sz)(C a:Nat->List Value)(k:Nat)(c:List Value)(hv:c.length=sz)(d:∀ i,i<k->a i=C i)(f:a k=c) :
  (List.range ((k+1)*sz)).map (zZ sz a)=(List.range (k*sz)).map (zZ sz C)++c:=by
 apply List.ext_getElem?
 intro j;have h1:((List.range (k*sz)).map (zZ sz C)).length=k*sz:=by simp
 by_cases h:j<k*sz
 ·have g:=(Nat.div_lt_iff_lt_mul b).2 h
  rw[List.getElem?_append_left (by rw[h1];exact h),List.getElem?_map,List.getElem?_map,List.getElem?_range h,List.getElem?_range (by rw[Nat.add_mul];omega)]
  simp only[Option.map_some];unfold zZ;rw[d _ g]
 ·rw[List.getElem?_append_right (by rw[h1];omega),h1,List.getElem?_map]
  by_cases h2:j<(k+1)*sz
  ·rw[List.getElem?_range h2]
   simp only[Option.map_some];obtain⟨i,rfl⟩:∃ i,j=k*sz+i:=⟨j - k*sz,by omega⟩
   have e:i<sz:=by rw[Nat.add_mul] at h2;omega
   rw[zC sz a k i e,f,Nat.add_sub_cancel_left,List.getD_eq_getElem?_getD,List.getElem?_eq_getElem (by omega)]
   rfl
  ·rw[List.getElem?_eq_none (by simpa using h2),List.getElem?_eq_none (by rw[Nat.add_mul] at h2;omega)]
   rfl
theorem zng (S:Nat->ql)(L:Nat->Value)(k:Nat)(a:Value):zbg S (atV L k a) (k+1)=zbg S L k++bkC S (atV L k a) k :=
 zfD 13 (by decide) (bkC S L) (bkC S (atV L k a)) k _ rfl (λi hi=>by unfold bkC;rw[qf _ _ _ _ (by omega)]) rfl
section
variable {w w' : World} {base : Nat} {v : Value} {N : Nat} {S : Nat -> ql} {L : Nat -> Value}
theorem ZC.below (h:ZC w base v N S L)(a:Below w.heap.size w w'):ZC w' base v N S L :=
 ⟨zo a h.row,λi b=>zo a (h.legs i b),h.apart⟩
theorem ZC.other {T:Nat->Prop}(h:ZC w base v N S L)(e:zx w w' T)(c:∀ b,T b->∃ cs t,w.heap[b]?=some (.cells cs t (0,0))/\150≠t/\3≠t):ZC w' base v N S L :=
 ⟨e.own h.row (λg a s=>by obtain⟨cs,t,h1,h2,_⟩:=c g s;exact zQ h.row h1 h2 g a rfl),λi d=>e.own (h.legs i d) (λg a s=>by obtain⟨cs,t,h1,_,h2⟩:=c g s;exact zQ (h.legs i d) h1 h2 g a rfl),h.apart⟩
theorem ZC.lower {a b:Nat}(h:ZC w a v N S L)(c:b<=a):ZC w b v N S L :=
 ⟨zu h.row c,λi d=>zu (h.legs i d) c,h.apart⟩
theorem ZC.nil (w:World)(base:Nat)(S:Nat->ql)(L:Nat->Value):ZC w base True 0 S L :=
 ⟨⟨rfl,.inl ⟨rfl,rfl⟩⟩,λi a=>by omega,λi j a hj=>by omega⟩
theorem ZC.is (h:ZC w base v N S L){k:Nat}(a:k<N):ql.Is w (bkC S L k) (S k):=by
 obtain⟨f,g,e,b,c,d⟩:=zp (h.legs k a);have o:=h.legs k a;rw[e] at o;unfold maxLen at c;exact⟨f,g,by unfold bkC;rw[e],zbo o,⟨b,by omega,d⟩⟩
theorem ZC.at {a:Option Addr}{c:Nat}(h:ZC w base (a,N,c) N S L):qO w a N S:=by
 refine⟨_,λk b=>?_,λk b=>h.is b⟩
 obtain⟨g,rfl,_,_⟩:=qh h.row (by omega)
 refine⟨g,0,rfl,λj d=>?_⟩
 rw[Nat.zero_add,zs h.row _ (by omega) rfl,zC 13 _ k j d]
theorem ZC.snoc {k:Nat}{r p:Value}{lim:Nat}(h:ZC w base v k S L)(n:∀ i,i<k->∀ b,(L i).ownBlock=some b->b<lim)
  (o:w.ownsRow lim 3 1 p (S k).lgn (zS (S k).lg (S k).lgn)) (l:base<=lim) (s:w.grownBy w' v.ownBlock)
  (t:w'.ownsRow base 150 13 r (k+1) (zbg S L k++bkC S (atV L k p) k)):ZC w' base r (k+1) S (atV L k p):=by
 have q:=qJ s;refine⟨by rw[zng];exact t,λi hi=>?_,λi j m hj=>?_⟩
 ·by_cases e:i=k
  ·subst e;rw[qu];exact q.own (zu o l) (λg d f=>zI h.row (zu o l) (by decide) g f d)
  ·rw[qf _ _ _ _ e];exact q.own (h.legs i (by omega)) (λg d f=>zI h.row (h.legs i (by omega)) (by decide) g f d)
 ·by_cases e:j=k
  ·subst e
   rw[qu,qf _ _ _ _ (by omega)]
   intro b h1 h3;have a:=n i m b h1;have c:=(o.lt b h3).1
   omega
  ·rw[qf _ _ _ _ e,qf _ _ _ _ (by omega)]
   exact h.apart i j m (by omega)
theorem ZC.congr {S':Nat->ql}(h:ZC w base v N S L)(e:∀ i,i<N->S i=S' i):ZC w base v N S' L:=by
 refine⟨?_,λi a=>by rw[← e i a];exact h.legs i a,h.apart⟩
 have b:zbg S' L N=zbg S L N:=List.map_congr_left λj c=>by
  have d:=by simpa using c
  unfold zZ bkC;rw[e _ (by omega)]
 rw[b];exact h.row
end
end
section
open Go.RowKit
variable{t base e sz c N n:Nat}{w:World}
def setC (C:Nat->List Value)(t f:Nat)(v:Value)(i:Nat):List Value:=if i=t then (C t).set f v else C i
theorem Zb (C:Nat->List Value)(t f:Nat)(v:Value):setC C t f v t=(C t).set f v:=Jf rfl
theorem ziy (C:Nat->List Value){i:Nat}(f:Nat)(v:Value)(h:i≠t):setC C t f v i=C i:=Je h
theorem Zr {g:Nat}{C:Nat->List Value}(h:w.ownsRow base e sz (some (g,0),N,c) N ((List.range (N*sz)).map (zZ sz C)))(t f:Nat)(v:Value)(hl:(C t).length=sz)(b:f<sz) :
  (w.setCell (g,t*sz+f) v).ownsRow base e sz (some (g,0),N,c) N ((List.range (N*sz)).map (zZ sz (setC C t f v))):=by
 have h0:0<sz:=by omega
 refine qR (zL h _ v) (λj _=>?_)
 by_cases e:j=t*sz+f
 ·subst e
  rw[Jf rfl,zC sz _ t f b,Zb,List.getD_eq_getElem?_getD,List.getElem?_set_self (by omega)]
  rfl
 ·rw[Je e]
  unfold zZ
  by_cases e2:j / sz=t
  ·have a:j % sz≠f:=λa=>e (by have:=Nat.div_add_mod j sz;rw[e2,a,Nat.mul_comm] at this;omega)
   rw[e2,Zb,List.getD_eq_getElem?_getD,List.getD_eq_getElem?_getD,List.getElem?_set_ne (λh=>a h.symm)]
  ·rw[ziy _ _ _ e2]
theorem zbs {v:Value}{C a:Nat->List Value}(h:w.ownsRow base e sz v n ((List.range (N*sz)).map (zZ sz C)))(b:0<sz)(c:∀ i,i<N->C i=a i):w.ownsRow base e sz v n ((List.range (N*sz)).map (zZ sz a)) :=
 qR h (λj d=>by unfold zZ;rw[c _ ((Nat.div_lt_iff_lt_mul b).2 d)])
theorem zU {g:Nat}{C:Nat->List Value}(h:w.ownsRow base e sz (some (g,0),N,c) N ((List.range (N*sz)).map (zZ sz C))){f:Nat}(d:t<N)(b:f<sz):w.cell? (g,t*sz+f)=some ((C t).getD f (.bool false)):=by
 have a:t*sz+f<N*sz:=by
  have h1:(t+1)*sz<=_:=Nat.mul_le_mul_right sz d;have h2:(t+1)*sz=_:=Nat.succ_mul t sz
  omega
 rw[zs h _ a rfl,zC sz C t f b]
end
theorem zlG {w:World}{c:Option Addr}{n:Nat}{F:Nat->Int}(h:zT w c n F):∀ a,c=some a->∀ j u,(zS F n)[j]?=some u->w.cell? (a.add j)=some u:=by
 intro a e j u i;obtain⟨g,rfl⟩:=zcD _ _ _ _ i;obtain⟨b,off,d,f⟩:=h j g;rw[e] at d
 cases d
 rw[Addr.add_lit];exact f
theorem zgp (l:Addr)(n c:Nat)(F:Nat->Int)(w:World)(hn:n<=1048576)(r:zT w (some l) n F) :
  Calls prog 212 #[(some l,n,c)] w λe w'=>(∃ v,e=.returned v/\w'.ownsRow w.heap.size 3 1 v n (zS F n))/\Below w.heap.size w w':=by
 obtain⟨s,t,g,i,k⟩:=info_parts Tryz.infoInt;have b:Below _ w (w.alloc (.cells #[] 3)):=zk bZ _;have m:(w.alloc _).ownsRow _ 3 1 _ 0 []:=⟨rfl,.inr ⟨_,0,#[],rfl,Jr _,Jb w _,Jr _,Jq _,rfl,rfl⟩⟩;have p:=hI (zlG (r.below b));have qT:∀ (w) (a) (n c o c'),(binOp _ 27 (.slice a n c) _).run _ w=_:=λw a n c o c'=>Lib.run_eql_slice_nil w _ _ a n c o c' underlying27
 go_enter func212,ntmps212;go_wp2_with (first|(at_builtin;refine zv _ rfl _ _ 27 rfl _ 3 s _ 1 8 underlying27 t g i k rfl (by decide) _ 0 [] (by rfl) m _ n c _ rfl (λh=>(by cases h)) (by rw[Zn,Nat.mul_one]) p (Qd _ _) (by unfold maxLen;omega) (by omega) (by simp) ?_;intro v' w3 d f))
 go_ret;rw[Nat.zero_add,List.nil_append] at d;exact⟨⟨_,rfl,d⟩,b.grown f (by simp) (λj q=>(m.lt j q).1)⟩
end Go.Proofs.YtmdnjgihooflfaaGreatDoor

/-
  OWN TEXT: KitB, KitBks, KitLds, KitOff, KitOwO.
-/
import Derived.Test.YtfallpinmhbemaaGreatDoorB07
import Derived.Test.YtfallpinmhbemaaGreatDoorB03
namespace Go.Proofs.YtfallpinmhbemaaGreatDoor
open Go.RowKit
open Go.Value (int)
open Go.IntKind (i64)
set_option maxHeartbeats 64000000
set_option maxRecDepth 100000
theorem zz {P:Program}(w:World){l:Array Oper}{rest:List Oper}{o:Oper}{a:Act}{Q:Exit->Act->World->Prop}
  (D:o.guard=none) (s x:Operand) (t:TypeId) (k:o.op=Op.call { callee:=Callee.builtin Builtin.append,args:=#[s,x],argTypes:=#[t,t] })
  (base:Nat) (e:TypeId) (i:TypeInfo) (z:Value) (size bytes:Nat) (A:P.underlying t=some (.slice e)) (B:P.info? e=some i) (G:i.zero=some z) (H:i.size=size) (I:i.bytes=bytes) (J:z.cells.size=size) (h7:0<size)
  (v:Value) (n:Nat) (q:List Value) (E:a.eval s=v) (h:w.ownsRow base e size v n q)
  (sa:Option Addr) (m c:Nat) (b:List Value) (F:a.eval x=.slice sa m c) (g:sa=none->m=0/\c=0) (hn:b.length=m*size) (K:∀ ad,sa=some ad->∀ j u,b[j]?=some u->w.cell? (ad.add j)=some u) (r:∀ u ∈ b,u.oneCell'=true)
  (b1:n+m<=maxLen) (b2:(n+m)*bytes<=140737488355328) (d:base<=w.heap.size)
  (C:∀ p w',w'.ownsRow base e size p (n+m) (q++b)->w.grownBy w' v.ownBlock->wpList P l Q rest (a.put o.dst p) w') :
  wpList P l Q (o :: rest) a w:=by
 cases sa with
 | none =>
  obtain⟨rfl,rfl⟩:=g rfl;have f:b=[]:=List.eq_nil_of_length_eq_zero (by simpa using hn)
  subst f;refine wpList_append_own_none D s x t k base e i size A B v n q E h F (C v w ?_ (World.grownBy.refl w _));rw[Nat.add_zero,List.append_nil];exact h
 | some ad =>
  refine wpList_append_own w D s x t k base e i z size bytes A B G H I J h7 v n q E h ad m c b F hn (K ad rfl) r b1 b2 d ?_;intro p w' L y _;exact C p w' L y
theorem own_legs {w:World}{base e c:Nat}{b:Option Addr}{a:List Int}{n:Nat}(hn:a.length=n)(h:w.ownsRow base e 1 (.slice b n c) n (QK a)):IntsAt w b n (getI a):=by
 subst hn;exact own_ints h
section
open Go.RowKit
theorem qR {w:World}{base e size n:Nat}{v:Value}{j:List Value}(h:w.ownsRow base e size v n j){b t:Nat}{cs:Array Value}(a:w.heap[b]?=some (.cells cs t (0,0)))(f:e≠t):∀ g,v.ownBlock=some g->¬ g=b:=by
 rintro g c rfl
 rcases h.2 with⟨rfl,_⟩|⟨g',i,cur,rfl,_,d,_⟩
 ·simp[Value.ownBlock] at c
 ·simp only[Value.ownBlock,Option.some.injEq] at c
  subst c;rw[d] at a;simp only[Option.some.injEq,Obj.cells.injEq] at a;exact f a.2.1
def bkC (S:Nat->ZK)(L:Nat->Value)(k:Nat):List Value :=
 [int i64 (S k).name,int i64 (S k).who,.string (S k).own,L k,int i64 (S k).pe,int i64 (S k).len,int i64 (S k).hei,int i64 (S k).cl,.bool (S k).all,int i64 (S k).be,int i64 (S k).state,int i64 (S k).unt,int i64 (S k).price]
def Qp (S:Nat->ZK)(L:Nat->Value)(N:Nat):List Value:=(List.range (N*13)).map (recCell 13 (bkC S L))
structure Zj (w:World)(base:Nat)(v:Value)(N:Nat)(S:Nat->ZK)(L:Nat->Value):Prop where
 row:w.ownsRow base 131 13 v N (Qp S L N)
 legs:∀ i,i<N->w.ownsRow base 3 1 (L i) (S i).lgn (zJ (S i).lg (S i).lgn)
 apart:∀ i j,i<j->j<N->∀ b,(L i).ownBlock=some b->(L j).ownBlock≠some b
theorem zcB (sz:Nat)(b:0<sz)(C C':Nat->List Value)(k:Nat)(c:List Value)(hv:c.length=sz)(d:∀ i,i<k->C' i=C i)(f:C' k=c) :
  (List.range ((k+1)*sz)).map (recCell sz C')=(List.range (k*sz)).map (recCell sz C)++c:=by
 apply List.ext_getElem?
 intro j;have a:((List.range (k*sz)).map (recCell sz C)).length=k*sz:=by simp
 by_cases h:j<k*sz
 ·have g:j / sz<k:=(Nat.div_lt_iff_lt_mul b).2 h
  rw[List.getElem?_append_left (by rw[a];exact h),List.getElem?_map,List.getElem?_map,List.getElem?_range h,List.getElem?_range (by rw[Nat.add_mul];omega)]
  simp only[Option.map_some];unfold recCell;rw[d _ g]
 ·rw[List.getElem?_append_right (by rw[a];omega),a,List.getElem?_map]
  by_cases h2:j<(k+1)*sz
  ·rw[List.getElem?_range h2]
   simp only[Option.map_some];obtain⟨i,rfl⟩:∃ i,j=k*sz+i:=⟨j - k*sz,by omega⟩
   have e:i<sz:=by rw[Nat.add_mul] at h2;omega
   rw[zM sz C' k i e,f,Nat.add_sub_cancel_left,List.getD_eq_getElem?_getD,List.getElem?_eq_getElem (by omega)]
   rfl
  ·rw[List.getElem?_eq_none (by simpa using h2),List.getElem?_eq_none (by rw[Nat.add_mul] at h2;omega)]
   rfl
theorem zhV (S:Nat->ZK)(L:Nat->Value)(k:Nat)(a:Value):Qp S (atV L k a) (k+1)=Qp S L k++bkC S (atV L k a) k :=
 zcB 13 (by decide) (bkC S L) (bkC S (atV L k a)) k _ rfl (fun i hi=>by unfold bkC;rw[atV_ne _ _ _ _ (by omega)]) rfl
section
variable {w w' : World} {base : Nat} {v : Value} {N : Nat} {S : Nat -> ZK} {L : Nat -> Value}
theorem Zj.below (h:Zj w base v N S L)(a:Below w.heap.size w w'):Zj w' base v N S L :=
 ⟨zm a h.row,fun i b=>zm a (h.legs i b),h.apart⟩
theorem Zj.other {T:Nat->Prop}(h:Zj w base v N S L)(j:zA w w' T)(e:∀ b,T b->∃ cs t,w.heap[b]?=some (.cells cs t (0,0))/\131≠t/\3≠t):Zj w' base v N S L :=
 ⟨j.own h.row (fun g d s=>by obtain⟨cs,t,a,c,_⟩:=e g s;exact qR h.row a c g d rfl),fun i f=>j.own (h.legs i f) (fun g d s=>by obtain⟨cs,t,a,_,c⟩:=e g s;exact qR (h.legs i f) a c g d rfl),h.apart⟩
theorem Zj.lower {b1 b2:Nat}(h:Zj w b1 v N S L)(a:b2<=b1):Zj w b2 v N S L :=
 ⟨zE h.row a,fun i b=>zE (h.legs i b) a,h.apart⟩
theorem Zj.nil (w:World)(base:Nat)(S:Nat->ZK)(L:Nat->Value):Zj w base (.slice none 0 0) 0 S L :=
 ⟨⟨rfl,.inl ⟨rfl,rfl⟩⟩,fun i a=>by omega,fun i j a hj=>by omega⟩
theorem Zj.is (h:Zj w base v N S L){k:Nat}(a:k<N):ZK.Is w (bkC S L k) (S k):=by
 obtain⟨f,g,e,b,c,d⟩:=zt (h.legs k a);have o:=h.legs k a;rw[e] at o;unfold maxLen at c;exact⟨f,g,by unfold bkC;rw[e],own_ints o,⟨b,by omega,d⟩⟩
theorem Zj.at {a:Option Addr}{c:Nat}(h:Zj w base (.slice a N c) N S L):ZU w a N S:=by
 refine⟨bkC S L,fun k b=>?_,fun k b=>h.is b⟩
 obtain⟨g,rfl,_,_⟩:=qw h.row (by omega)
 refine⟨g,0,rfl,fun j d=>?_⟩
 rw[Nat.zero_add,zK h.row (k*13+j) (by omega) rfl,zM 13 _ k j d]
theorem Zj.snoc {k:Nat}{q o:Value}{lim:Nat}(h:Zj w base v k S L)(n:∀ i,i<k->∀ b,(L i).ownBlock=some b->b<lim)
  (hl:w.ownsRow lim 3 1 o (S k).lgn (zJ (S k).lg (S k).lgn)) (l:base<=lim) (t:w.grownBy w' v.ownBlock)
  (u:w'.ownsRow base 131 13 q (k+1) (Qp S L k++bkC S (atV L k o) k)):Zj w' base q (k+1) S (atV L k o):=by
 have p:=zO t;refine⟨by rw[zhV];exact u,fun i hi=>?_,fun i j m hj=>?_⟩
 ·by_cases e:i=k
  ·subst e;rw[atV_at];exact p.own (zE hl l) (fun g d f=>own_apart h.row (zE hl l) (by decide) g f d)
  ·rw[atV_ne _ _ _ _ e];exact p.own (h.legs i (by omega)) (fun g d f=>own_apart h.row (h.legs i (by omega)) (by decide) g f d)
 ·by_cases e:j=k
  ·subst e
   rw[atV_at,atV_ne _ _ _ _ (by omega)]
   intro b r s;have a:=n i m b r;have c:=(hl.lt b s).1
   omega
  ·rw[atV_ne _ _ _ _ e,atV_ne _ _ _ _ (by omega)]
   exact h.apart i j m (by omega)
theorem Zj.congr {a:Nat->ZK}(h:Zj w base v N S L)(e:∀ i,i<N->S i=a i):Zj w base v N a L:=by
 refine⟨?_,fun i b=>by rw[← e i b];exact h.legs i b,h.apart⟩
 have c:Qp a L N=Qp S L N:=List.map_congr_left fun j d=>by
  have f:j<N*13:=by simpa using d
  unfold recCell bkC;rw[e (j / 13) (by omega)]
 rw[c];exact h.row
end
end
section
open Go.RowKit
def ldC (A B C:Nat->Value)(k:Nat):List Value:=[A k,B k,C k]
def zbx (A B C:Nat->Value)(N:Nat):List Value:=(List.range (N*3)).map (recCell 3 (ldC A B C))
def FarV (N:Nat)(A:Nat->Value):Prop:=∀ i j,i<N->j<N->i≠j->∀ b,(A i).ownBlock=some b->(A j).ownBlock≠some b
structure Zb (w:World)(base:Nat)(v:Value)(N:Nat)(S:Nat->qT)(A B C:Nat->Value):Prop where
 row:w.ownsRow base 136 3 v N (zbx A B C N)
 st:∀ i,i<N->w.ownsRow base 186 4 (A i) (S i).stn (zX (S i).st (S i).stn)
 ro:∀ i,i<N->w.ownsRow base 190 4 (B i) (S i).ron (zQ (S i).ro (S i).ron)
 se:∀ i,i<N->w.ownsRow base 138 2 (C i) (S i).sen (zW (S i).se (S i).sen)
 far:FarV N A/\FarV N B/\FarV N C
section
variable {w w' : World} {base : Nat} {v : Value} {N : Nat} {S : Nat -> qT} {A B C : Nat -> Value}
theorem Zb.below (h:Zb w base v N S A B C)(b:Below w.heap.size w w'):Zb w' base v N S A B C :=
 ⟨zm b h.row,fun i a=>zm b (h.st i a),fun i a=>zm b (h.ro i a),fun i a=>zm b (h.se i a),h.far⟩
theorem Zb.other {T:Nat->Prop}(h:Zb w base v N S A B C)(j:zA w w' T)(f:∀ b,T b->∃ cs t,w.heap[b]?=some (.cells cs t (0,0))/\136≠t/\186≠t/\190≠t/\138≠t):Zb w' base v N S A B C :=
 ⟨j.own h.row (fun g e s=>by obtain⟨cs,t,c,d,_⟩:=f g s;exact qR h.row c d g e rfl),fun i a=>j.own (h.st i a) (fun g e s=>by obtain⟨cs,t,c,_,d,_⟩:=f g s;exact qR (h.st i a) c d g e rfl),
  fun i a=>j.own (h.ro i a) (fun g e s=>by obtain⟨cs,t,c,_,_,d,_⟩:=f g s;exact qR (h.ro i a) c d g e rfl),fun i a=>j.own (h.se i a) (fun g e s=>by obtain⟨cs,t,c,_,_,_,d⟩:=f g s;exact qR (h.se i a) c d g e rfl),h.far⟩
theorem Zb.lower {b1 b2:Nat}(h:Zb w b1 v N S A B C)(b:b2<=b1):Zb w b2 v N S A B C :=
 ⟨zE h.row b,fun i a=>zE (h.st i a) b,fun i a=>zE (h.ro i a) b,fun i a=>zE (h.se i a) b,h.far⟩
theorem Zb.nil (w:World)(base:Nat)(S:Nat->qT)(A B C:Nat->Value):Zb w base (.slice none 0 0) 0 S A B C :=
 ⟨⟨rfl,.inl ⟨rfl,rfl⟩⟩,fun i a=>by omega,fun i a=>by omega,fun i a=>by omega,fun i j a=>by omega,fun i j a=>by omega,fun i j a=>by omega⟩
theorem Zb.is (h:Zb w base v N S A B C){k:Nat}(a:k<N):qT.Is w (ldC A B C k) (S k):=by
 obtain⟨i,m,b,p,s,x⟩:=zt (h.st k a);obtain⟨j,n,c,q,t,y⟩:=zt (h.ro k a);obtain⟨l,o,d,r,u,z⟩:=zt (h.se k a);have e:=h.st k a;have f:=h.ro k a;have g:=h.se k a;rw[b] at e;rw[c] at f;rw[d] at g;unfold maxLen at s t u;exact⟨i,m,j,n,l,o,by unfold ldC;rw[b,c,d],Q6 e,⟨p,by omega,x⟩,ZM f,⟨q,by omega,y⟩,Qd g,⟨r,by omega,z⟩⟩
theorem Zb.at {a:Option Addr}{c:Nat}(h:Zb w base (.slice a N c) N S A B C):QE w a N S:=by
 refine⟨ldC A B C,fun k b=>?_,fun k b=>h.is b⟩
 obtain⟨g,rfl,_,_⟩:=qw h.row (by omega)
 refine⟨g,0,rfl,fun j d=>?_⟩
 rw[Nat.zero_add,zK h.row (k*3+j) (by omega) rfl,zM 3 _ k j d]
theorem FarV.snoc {A:Nat->Value}{k lim:Nat}{a:Value}(h:FarV k A)(f:∀ i,i<k->∀ b,(A i).ownBlock=some b->b<lim)(g:∀ b,a.ownBlock=some b->lim<=b):FarV (k+1) (atV A k a):=fun i j hi hj e b d c=>by
 by_cases ei:i=k
 ·subst ei
  rw[atV_at] at d;rw[atV_ne _ _ _ _ (fun h=>e h.symm)] at c
  have:=f j (by omega) b c
  have:=g b d
  omega
 ·rw[atV_ne _ _ _ _ ei] at d
  by_cases ej:j=k
  ·subst ej
   rw[atV_at] at c;have:=f i (by omega) b d
   have:=g b c
   omega
  ·rw[atV_ne _ _ _ _ ej] at c
   exact h i j (by omega) (by omega) e b d c
theorem Zb.snoc {k:Nat}{s a b c:Value}{lim:Nat}(h:Zb w base v k S A B C)(d:∀ i,i<k->(∀ g,(A i).ownBlock=some g->g<lim)/\(∀ g,(B i).ownBlock=some g->g<lim)/\(∀ g,(C i).ownBlock=some g->g<lim))
  (p:w.ownsRow lim 186 4 a (S k).stn (zX (S k).st (S k).stn)) (q:w.ownsRow lim 190 4 b (S k).ron (zQ (S k).ro (S k).ron)) (r:w.ownsRow lim 138 2 c (S k).sen (zW (S k).se (S k).sen)) (j:base<=lim) (y:w.grownBy w' v.ownBlock)
  (l:w'.ownsRow base 136 3 s (k+1) (zbx A B C k++[a,b,c])):Zb w' base s (k+1) S (atV A k a) (atV B k b) (atV C k c):=by
 have z:=zO y;have far:∀ {t sz n:Nat} {u:Value} {x:List Value},w.ownsRow base t sz u n x->136≠t->w'.ownsRow base t sz u n x:=fun l D=>z.own l (fun g m o=>own_apart h.row l D g o m)
 refine⟨?_,fun i f=>?_,fun i f=>?_,fun i f=>?_,h.far.1.snoc (fun i f=>(d i f).1) (fun b e=>(p.lt b e).1),h.far.2.1.snoc (fun i f=>(d i f).2.1) (fun b e=>(q.lt b e).1),h.far.2.2.snoc (fun i f=>(d i f).2.2) (fun b e=>(r.lt b e).1)⟩
 ·have e:zbx (atV A k a) (atV B k b) (atV C k c) (k+1)=zbx A B C k++[a,b,c]:=zcB 3 (by decide) (ldC A B C) (ldC (atV A k a) (atV B k b) (atV C k c)) k _ rfl (fun i f=>by unfold ldC;rw[atV_ne _ _ _ _ (by omega),atV_ne _ _ _ _ (by omega),atV_ne _ _ _ _ (by omega)]) (by unfold ldC;rw[atV_at,atV_at,atV_at])
  rw[e];exact l
 ·by_cases e:i=k
  ·subst e;rw[atV_at];exact far (zE p j) (by decide)
  ·rw[atV_ne _ _ _ _ e];exact far (h.st i (by omega)) (by decide)
 ·by_cases e:i=k
  ·subst e;rw[atV_at];exact far (zE q j) (by decide)
  ·rw[atV_ne _ _ _ _ e];exact far (h.ro i (by omega)) (by decide)
 ·by_cases e:i=k
  ·subst e;rw[atV_at];exact far (zE r j) (by decide)
  ·rw[atV_ne _ _ _ _ e];exact far (h.se i (by omega)) (by decide)
end
end
structure Off where
 san:Nat
 sa:Nat->Sail
 ldn:Nat
 ld:Nat->qT
 bkn:Nat
 bk:Nat->ZK
def Off.Short (x:Off)(B:Nat):Prop:=(x.san<=B/\ShortAll x.san x.sa B)/\(x.ldn<=B/\zci x.ldn x.ld B)/\(x.bkn<=B/\zcj x.bkn x.bk B)
section
open Go.RowKit
theorem zfJ (S:Nat->Sail)(L C:Nat->Value)(k:Nat)(b a:Value) :
  (List.range ((k+1)*8)).map (sailCell S (atV L k b) (atV C k a))=(List.range (k*8)).map (sailCell S L C)++[int i64 (S k).id,.string (S k).fr,.string (S k).dst,int i64 (S k).dep,int i64 (S k).arr,b,a,int i64 (S k).most]:=by
 rw[show(k+1)*8=k*8+1+1+1+1+1+1+1+1 by omega,List.range_succ,List.range_succ,List.range_succ,List.range_succ,List.range_succ,List.range_succ,List.range_succ,List.range_succ]
 simp only[List.map_append,List.map_cons,List.map_nil,List.append_assoc,List.cons_append,List.nil_append];rw[sailCell_0,sailCell_1,show k*8+1+1=k*8+2 by omega,sailCell_2,show k*8+2+1=k*8+3 by omega,sailCell_3,show k*8+3+1=k*8+4 by omega,sailCell_4,show k*8+4+1=k*8+5 by omega,sailCell_5,show k*8+5+1=k*8+6 by omega,sailCell_6,show k*8+6+1=k*8+7 by omega,sailCell_7,atV_at,atV_at]
 congr 1
 refine List.map_congr_left fun j c=>?_
 have d:j<k*8:=by simpa using c
 unfold sailCell;rw[atV_ne _ _ _ _ (show j / 8≠k by omega),atV_ne _ _ _ _ (show j / 8≠k by omega)]
theorem OwnSails.snoc {w w':World}{base k:Nat}{v u:Value}{S:Nat->Sail}{L C:Nat->Value}{t p:Value}{lim:Nat}(h:OwnSails w base v k S L C)(m:∀ i,i<k->(∀ b,(L i).ownBlock=some b->b<lim)/\(∀ b,(C i).ownBlock=some b->b<lim))
  (hl:w.ownsRow lim 106 2 t (S k).la.n (zG (S k).la)) (s:w.ownsRow lim 110 2 p (S k).ca.n (zG (S k).ca)) (l:base<=lim) (x:w.grownBy w' v.ownBlock)
  (z:w'.ownsRow base 37 8 u (k+1) ((List.range (k*8)).map (sailCell S L C)++[int i64 (S k).id,.string (S k).fr,.string (S k).dst,int i64 (S k).dep,int i64 (S k).arr,t,p,int i64 (S k).most])) :
  OwnSails w' base u (k+1) S (atV L k t) (atV C k p):=by
 have o:=zO x;refine⟨by rw[zfJ];exact z,fun i y=>?_,fun i y=>?_,fun i j n hj=>?_⟩
 ·by_cases e:i=k
  ·subst e;rw[atV_at];exact o.own (zE hl l) (fun g d f=>own_apart h.row (zE hl l) (by decide) g f d)
  ·rw[atV_ne _ _ _ _ e];exact o.own (h.la i (by omega)) (fun g d f=>own_apart h.row (h.la i (by omega)) (by decide) g f d)
 ·by_cases e:i=k
  ·subst e;rw[atV_at];exact o.own (zE s l) (fun g d f=>own_apart h.row (zE s l) (by decide) g f d)
  ·rw[atV_ne _ _ _ _ e];exact o.own (h.ca i (by omega)) (fun g d f=>own_apart h.row (h.ca i (by omega)) (by decide) g f d)
 ·by_cases e:j=k
  ·subst e
   rw[atV_at,atV_at,atV_ne _ _ _ _ (by omega),atV_ne _ _ _ _ (by omega)]
   refine⟨fun b q r=>?_,fun b q r=>?_⟩
   ·have a:=(m i n).1 b q
    have c:=(hl.lt b r).1
    omega
   ·have a:=(m i n).2 b q
    have c:=(s.lt b r).1
    omega
  ·rw[atV_ne _ _ _ _ e,atV_ne _ _ _ _ e,atV_ne _ _ _ _ (by omega),atV_ne _ _ _ _ (by omega)]
   exact h.apart i j n (by omega)
theorem off_at0 {w:World}{g t:Nat}{u0 u1 u2:Value}(h:w.heap[g]?=some (.cells #[u0,u1,u2] t (0,0)))(v:Value):(w.setCell ⟨g,0,none⟩ v).heap[g]?=some (.cells #[v,u1,u2] t (0,0)):=by simpa using zy h 0 v
theorem off_at1 {w:World}{g t:Nat}{u0 u1 u2:Value}(h:w.heap[g]?=some (.cells #[u0,u1,u2] t (0,0)))(v:Value):(w.setCell ⟨g,1,none⟩ v).heap[g]?=some (.cells #[u0,v,u2] t (0,0)):=by simpa using zy h 1 v
theorem zgI {w:World}{g t:Nat}{u0 u1 u2:Value}(h:w.heap[g]?=some (.cells #[u0,u1,u2] t (0,0)))(v:Value):(w.setCell ⟨g,2,none⟩ v).heap[g]?=some (.cells #[u0,u1,v] t (0,0)):=by simpa using zy h 2 v
theorem zT {w:World}{base e size n:Nat}{v:Value}{d:List Value}(h:w.ownsRow base e size v n d):∀ g,v.ownBlock=some g->∃ cs,w.heap[g]?=some (.cells cs e (0,0)):=fun g a=>by
 rcases h.2 with⟨rfl,_⟩|⟨g',c,cur,rfl,_,b,_⟩
 ·cases a
 ·simp[Value.ownBlock] at a
  subst a;exact⟨cur,b⟩
theorem OwnSails.other {w w':World}{base:Nat}{v:Value}{N:Nat}{S:Nat->Sail}{L C:Nat->Value}{T:Nat->Prop}(h:OwnSails w base v N S L C)(j:zA w w' T)(f:∀ b,T b->∃ cs t,w.heap[b]?=some (.cells cs t (0,0))/\37≠t/\106≠t/\110≠t):OwnSails w' base v N S L C :=
 ⟨j.own h.row (fun g d s=>by obtain⟨cs,t,a,c,_⟩:=f g s;exact qR h.row a c g d rfl),fun i e=>j.own (h.la i e) (fun g d s=>by obtain⟨cs,t,a,_,c,_⟩:=f g s;exact qR (h.la i e) a c g d rfl),
  fun i e=>j.own (h.ca i e) (fun g d s=>by obtain⟨cs,t,a,_,_,c⟩:=f g s;exact qR (h.ca i e) a c g d rfl),h.apart⟩
structure zV (w:World)(base:Nat)(c d e:Value)(a b n3:Nat)(x:Off)(L C A B D E:Nat->Value):Prop where
 sa:OwnSails w base c a x.sa L C
 ld:Zb w base d b x.ld A B D
 bk:Zj w base e n3 x.bk E
section
variable {w w' : World} {base : Nat} {v1 v2 v3 : Value} {n1 n2 n3 : Nat} {x : Off} {L C A B D E : Nat -> Value}
theorem zV.below (h:zV w base v1 v2 v3 n1 n2 n3 x L C A B D E)(a:Below w.heap.size w w'):zV w' base v1 v2 v3 n1 n2 n3 x L C A B D E:=⟨h.sa.below a,h.ld.below a,h.bk.below a⟩
theorem zV.lower {b1 b2:Nat}(h:zV w b1 v1 v2 v3 n1 n2 n3 x L C A B D E)(a:b2<=b1):zV w b2 v1 v2 v3 n1 n2 n3 x L C A B D E:=⟨h.sa.base a,h.ld.lower a,h.bk.lower a⟩
theorem zV.box {g t:Nat}{cs:Array Value}(h:zV w base v1 v2 v3 n1 n2 n3 x L C A B D E)(d:zA w w' (fun b=>b=g))(c:w.heap[g]?=some (.cells cs t (0,0)))(a:37≠t/\106≠t/\110≠t/\136≠t/\186≠t/\190≠t/\138≠t/\131≠t/\3≠t):zV w' base v1 v2 v3 n1 n2 n3 x L C A B D E :=
 ⟨h.sa.other d (fun b e=>by have e:b=g:=e;subst e;exact⟨cs,t,c,a.1,a.2.1,a.2.2.1⟩),h.ld.other d (fun b e=>by have e:b=g:=e;subst e;exact⟨cs,t,c,a.2.2.2.1,a.2.2.2.2.1,a.2.2.2.2.2.1,a.2.2.2.2.2.2.1⟩),h.bk.other d (fun b e=>by have e:b=g:=e;subst e;exact⟨cs,t,c,a.2.2.2.2.2.2.2.1,a.2.2.2.2.2.2.2.2⟩)⟩
theorem zV.load {m a b c:Value}{k lim:Nat}(h:zV w base v1 v2 v3 n1 k n3 x L C A B D E)(d:∀ i,i<k->(∀ g,(A i).ownBlock=some g->g<lim)/\(∀ g,(B i).ownBlock=some g->g<lim)/\(∀ g,(D i).ownBlock=some g->g<lim))
  (n:w.ownsRow lim 186 4 a (x.ld k).stn (zX (x.ld k).st (x.ld k).stn)) (o:w.ownsRow lim 190 4 b (x.ld k).ron (zQ (x.ld k).ro (x.ld k).ron)) (p:w.ownsRow lim 138 2 c (x.ld k).sen (zW (x.ld k).se (x.ld k).sen)) (j:base<=lim) (l:w.grownBy w' v2.ownBlock)
  (q:w'.ownsRow base 136 3 m (k+1) (zbx A B D k++[a,b,c])):zV w' base v1 m v3 n1 (k+1) n3 x L C (atV A k a) (atV B k b) (atV D k c) E :=
 ⟨h.sa.other (zO l) (fun g e=>by obtain⟨cs,f⟩:=zT h.ld.row g e;exact⟨cs,_,f,by decide,by decide,by decide⟩),h.ld.snoc d n o p j l q,h.bk.other (zO l) (fun g e=>by obtain⟨cs,f⟩:=zT h.ld.row g e;exact⟨cs,_,f,by decide,by decide⟩)⟩
theorem zV.book {l j:Value}{k lim:Nat}(h:zV w base v1 v2 v3 n1 n2 k x L C A B D E)(a:∀ i,i<k->∀ b,(E i).ownBlock=some b->b<lim)
  (hl:w.ownsRow lim 3 1 j (x.bk k).lgn (zJ (x.bk k).lg (x.bk k).lgn)) (d:base<=lim) (f:w.grownBy w' v3.ownBlock)
  (m:w'.ownsRow base 131 13 l (k+1) (Qp x.bk E k++bkC x.bk (atV E k j) k)):zV w' base v1 v2 l n1 n2 (k+1) x L C A B D (atV E k j) :=
 ⟨h.sa.other (zO f) (fun g e=>by obtain⟨cs,c⟩:=zT h.bk.row g e;exact⟨cs,_,c,by decide,by decide,by decide⟩),h.ld.other (zO f) (fun g e=>by obtain⟨cs,c⟩:=zT h.bk.row g e;exact⟨cs,_,c,by decide,by decide,by decide,by decide⟩),h.bk.snoc a hl d f m⟩
end
end
end Go.Proofs.YtfallpinmhbemaaGreatDoor

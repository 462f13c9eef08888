/-
  OWN TEXT: KitB, KitBks, KitLds, KitOff, KitOwO.
-/
import Derived.Test.YtgmdnkngnhkgbaaGreatB07
import Derived.Test.YtgmdnkngnhkgbaaGreatB03
namespace Go.Proofs.YtgmdnkngnhkgbaaGreat
open Go.RowKit
open Go.Value (int)
open Go.IntKind (i64)
set_option maxHeartbeats 64000000
set_option maxRecDepth 100000
theorem zu {P:Program}(w:World){l:Array Oper}{rest:List Oper}{o:Oper}{a:Act}{Q:Exit->Act->World->Prop}
  (C:o.guard=none) (s x:Operand) (t:TypeId) (k:o.op=Op.call { callee:=Callee.builtin Builtin.append,args:=#[s,x],argTypes:=#[t,t] })
  (base:Nat) (e:TypeId) (i:TypeInfo) (z:Value) (size bytes:Nat) (y:P.underlying t=some (.slice e)) (A:P.info? e=some i) (F:i.zero=some z) (G:i.size=size) (H:i.bytes=bytes) (I:z.cells.size=size) (h7:0<size)
  (v:Value) (n:Nat) (p:List Value) (D:a.eval s=v) (h:w.ownsRow base e size v n p)
  (sa:Option Addr) (m c:Nat) (b:List Value) (E:a.eval x=.slice sa m c) (g:sa=none->m=0/\c=0) (hn:b.length=m*size) (J:∀ ad,sa=some ad->∀ j u,b[j]?=some u->w.cell? (ad.add j)=some u) (q:∀ u ∈ b,u.oneCell'=true)
  (b1:n+m<=maxLen) (b2:(n+m)*bytes<=140737488355328) (d:base<=w.heap.size)
  (B:∀ v' w',w'.ownsRow base e size v' (n+m) (p++b)->w.grownBy w' v.ownBlock->wpList P l Q rest (a.put o.dst v') w') :
  wpList P l Q (o :: rest) a w:=by
 cases sa with
 | none =>
  obtain⟨rfl,rfl⟩:=g rfl;have f:b=[]:=List.eq_nil_of_length_eq_zero (by simpa using hn)
  subst f;refine wpList_append_own_none C s x t k base e i size y A v n p D h E (B v w ?_ (World.grownBy.refl w _));rw[Nat.add_zero,List.append_nil];exact h
 | some ad =>
  refine wpList_append_own w C s x t k base e i z size bytes y A F G H I h7 v n p D h ad m c b E hn (J ad rfl) q b1 b2 d ?_;intro v' w' K r _;exact B v' w' K r
theorem zgF {w:World}{d:Option Addr}{c:List Int}(h:zX w d c.length (getI c)):∀ a,d=some a->∀ j u,(Zt c)[j]?=some u->w.cell? (a.add j)=some u:=by
 intro a e j u k;obtain⟨i,rfl⟩:=intList_get _ _ _ _ k;obtain⟨b,off,f,g⟩:=h j i;rw[e] at f
 cases f
 rw[Addr.add_lit];exact g
theorem zbm (a:List Int):(Zt a).length=a.length:=by unfold Zt;exact zW _ _
theorem zdz (a:List Int):∀ u ∈ Zt a,u.oneCell'=true:=intList_one _ _
theorem zdV (a b:List Int):Zt (a++b)=Zt a++Zt b:=by
 have c:∀ l:List Int,Zt l=l.map (fun x=>int i64 x):=by
  intro l;unfold Zt zw getI
  apply List.ext_getElem?
  intro i
  by_cases hi:i<l.length
  ·rw[List.getElem?_map,List.getElem?_range hi,List.getElem?_map,List.getElem?_eq_getElem hi]
   simp[List.getD_eq_getElem?_getD,List.getElem?_eq_getElem hi]
  ·rw[List.getElem?_eq_none (by simpa using hi),List.getElem?_eq_none (by simpa using hi)]
 rw[c,c,c,List.map_append]
theorem own_legs {w:World}{base e c:Nat}{b:Option Addr}{a:List Int}{n:Nat}(hn:a.length=n)(h:w.ownsRow base e 1 (.slice b n c) n (Zt a)):zX w b n (getI a):=by
 subst hn;exact own_ints h
section
open Go.RowKit
theorem qD {w:World}{base e size n:Nat}{v:Value}{j:List Value}(h:w.ownsRow base e size v n j){b t:Nat}{cs:Array Value}(a:w.heap[b]?=some (.cells cs t (0,0)))(f:e≠t):∀ g,v.ownBlock=some g->¬ g=b:=by
 rintro g c rfl
 rcases h.2 with⟨rfl,_⟩|⟨g',i,cur,rfl,_,d,_⟩
 ·simp[Value.ownBlock] at c
 ·simp only[Value.ownBlock,Option.some.injEq] at c
  subst c;rw[d] at a;simp only[Option.some.injEq,Obj.cells.injEq] at a;exact f a.2.1
def bkC (S:Nat->qi)(L:Nat->Value)(k:Nat):List Value :=
 [int i64 (S k).name,int i64 (S k).who,.string (S k).own,L k,int i64 (S k).pe,int i64 (S k).len,int i64 (S k).hei,int i64 (S k).cl,.bool (S k).all,int i64 (S k).be,int i64 (S k).state,int i64 (S k).unt,int i64 (S k).price]
def Qq (S:Nat->qi)(L:Nat->Value)(N:Nat):List Value:=(List.range (N*13)).map (recCell 13 (bkC S L))
structure qR (w:World)(base:Nat)(v:Value)(N:Nat)(S:Nat->qi)(L:Nat->Value):Prop where
 row:w.ownsRow base 43 13 v N (Qq S L N)
 legs:∀ i,i<N->w.ownsRow base 3 1 (L i) (S i).lgn (zw (S i).lg (S i).lgn)
 apart:∀ i j,i<j->j<N->∀ b,(L i).ownBlock=some b->(L j).ownBlock≠some b
theorem zbY (a:Nat)(c:0<a)(C C':Nat->List Value)(k:Nat)(d:List Value)(hv:d.length=a)(e:∀ i,i<k->C' i=C i)(g:C' k=d) :
  (List.range ((k+1)*a)).map (recCell a C')=(List.range (k*a)).map (recCell a C)++d:=by
 apply List.ext_getElem?
 intro j;have b:((List.range (k*a)).map (recCell a C)).length=k*a:=by simp
 by_cases h:j<k*a
 ·have l:j / a<k:=(Nat.div_lt_iff_lt_mul c).2 h
  rw[List.getElem?_append_left (by rw[b];exact h),List.getElem?_map,List.getElem?_map,List.getElem?_range h,List.getElem?_range (by rw[Nat.add_mul];omega)]
  simp only[Option.map_some];unfold recCell;rw[e _ l]
 ·rw[List.getElem?_append_right (by rw[b];omega),b,List.getElem?_map]
  by_cases h2:j<(k+1)*a
  ·rw[List.getElem?_range h2]
   simp only[Option.map_some];obtain⟨i,rfl⟩:∃ i,j=k*a+i:=⟨j - k*a,by omega⟩
   have f:i<a:=by rw[Nat.add_mul] at h2;omega
   rw[zz a C' k i f,g,Nat.add_sub_cancel_left,List.getD_eq_getElem?_getD,List.getElem?_eq_getElem (by omega)]
   rfl
  ·rw[List.getElem?_eq_none (by simpa using h2),List.getElem?_eq_none (by rw[Nat.add_mul] at h2;omega)]
   rfl
theorem zgG (S:Nat->qi)(L:Nat->Value)(k:Nat)(lv:Value):Qq S (atV L k lv) (k+1)=Qq S L k++bkC S (atV L k lv) k :=
 zbY 13 (by decide) (bkC S L) (bkC S (atV L k lv)) k _ rfl (fun i hi=>by unfold bkC;rw[atV_ne _ _ _ _ (by omega)]) rfl
section
variable {w w' : World} {base : Nat} {v : Value} {N : Nat} {S : Nat -> qi} {L : Nat -> Value}
theorem qR.below (h:qR w base v N S L)(a:Below w.heap.size w w'):qR w' base v N S L :=
 ⟨zp a h.row,fun i b=>zp a (h.legs i b),h.apart⟩
theorem qR.other {T:Nat->Prop}(h:qR w base v N S L)(j:zA w w' T)(e:∀ b,T b->∃ cs t,w.heap[b]?=some (.cells cs t (0,0))/\43≠t/\3≠t):qR w' base v N S L :=
 ⟨j.own h.row (fun g d s=>by obtain⟨cs,t,a,c,_⟩:=e g s;exact qD h.row a c g d rfl),fun i f=>j.own (h.legs i f) (fun g d s=>by obtain⟨cs,t,a,_,c⟩:=e g s;exact qD (h.legs i f) a c g d rfl),h.apart⟩
theorem qR.lower {b1 b2:Nat}(h:qR w b1 v N S L)(a:b2<=b1):qR w b2 v N S L :=
 ⟨zC h.row a,fun i b=>zC (h.legs i b) a,h.apart⟩
theorem qR.nil (w:World)(base:Nat)(S:Nat->qi)(L:Nat->Value):qR w base (.slice none 0 0) 0 S L :=
 ⟨⟨rfl,.inl ⟨rfl,rfl⟩⟩,fun i a=>by omega,fun i j a hj=>by omega⟩
theorem qR.is (h:qR w base v N S L){k:Nat}(a:k<N):qi.Is w (bkC S L k) (S k):=by
 obtain⟨f,g,e,b,c,d⟩:=zr (h.legs k a);have o:=h.legs k a;rw[e] at o;unfold maxLen at c;exact⟨f,g,by unfold bkC;rw[e],own_ints o,⟨b,by omega,d⟩⟩
theorem qR.at {a:Option Addr}{c:Nat}(h:qR w base (.slice a N c) N S L):qK w a N S:=by
 refine⟨bkC S L,fun k b=>?_,fun k b=>h.is b⟩
 obtain⟨g,rfl,_,_⟩:=own_addr h.row (by omega)
 refine⟨g,0,rfl,fun j d=>?_⟩
 rw[Nat.zero_add,zx h.row (k*13+j) (by omega) rfl,zz 13 _ k j d]
theorem qR.snoc {k:Nat}{v' lv:Value}{lim:Nat}(h:qR w base v k S L)(n:∀ i,i<k->∀ b,(L i).ownBlock=some b->b<lim)
  (hl:w.ownsRow lim 3 1 lv (S k).lgn (zw (S k).lg (S k).lgn)) (l:base<=lim) (r:w.grownBy w' v.ownBlock)
  (s:w'.ownsRow base 43 13 v' (k+1) (Qq S L k++bkC S (atV L k lv) k)):qR w' base v' (k+1) S (atV L k lv):=by
 have o:=zS r;refine⟨by rw[zgG];exact s,fun i hi=>?_,fun i j m hj=>?_⟩
 ·by_cases e:i=k
  ·subst e;rw[atV_at];exact o.own (zC hl l) (fun g d f=>own_apart h.row (zC hl l) (by decide) g f d)
  ·rw[atV_ne _ _ _ _ e];exact o.own (h.legs i (by omega)) (fun g d f=>own_apart h.row (h.legs i (by omega)) (by decide) g f d)
 ·by_cases e:j=k
  ·subst e
   rw[atV_at,atV_ne _ _ _ _ (by omega)]
   intro b p q;have a:=n i m b p;have c:=(hl.lt b q).1
   omega
  ·rw[atV_ne _ _ _ _ e,atV_ne _ _ _ _ (by omega)]
   exact h.apart i j m (by omega)
theorem qR.congr {S':Nat->qi}(h:qR w base v N S L)(e:∀ i,i<N->S i=S' i):qR w base v N S' L:=by
 refine⟨?_,fun i a=>by rw[← e i a];exact h.legs i a,h.apart⟩
 have b:Qq S' L N=Qq S L N:=List.map_congr_left fun j c=>by
  have d:j<N*13:=by simpa using c
  unfold recCell bkC;rw[e (j / 13) (by omega)]
 rw[b];exact h.row
end
end
section
open Go.RowKit
def ldC (A B C:Nat->Value)(k:Nat):List Value:=[A k,B k,C k]
def zaW (A B C:Nat->Value)(N:Nat):List Value:=(List.range (N*3)).map (recCell 3 (ldC A B C))
def FarV (N:Nat)(A:Nat->Value):Prop:=∀ i j,i<N->j<N->i≠j->∀ b,(A i).ownBlock=some b->(A j).ownBlock≠some b
structure qz (w:World)(base:Nat)(v:Value)(N:Nat)(S:Nat->qm)(A B C:Nat->Value):Prop where
 row:w.ownsRow base 55 3 v N (zaW A B C N)
 st:∀ i,i<N->w.ownsRow base 84 4 (A i) (S i).stn (zN (S i).st (S i).stn)
 ro:∀ i,i<N->w.ownsRow base 93 4 (B i) (S i).ron (zK (S i).ro (S i).ron)
 se:∀ i,i<N->w.ownsRow base 99 2 (C i) (S i).sen (zJ (S i).se (S i).sen)
 far:FarV N A/\FarV N B/\FarV N C
section
variable {w w' : World} {base : Nat} {v : Value} {N : Nat} {S : Nat -> qm} {A B C : Nat -> Value}
theorem qz.below (h:qz w base v N S A B C)(b:Below w.heap.size w w'):qz w' base v N S A B C :=
 ⟨zp b h.row,fun i a=>zp b (h.st i a),fun i a=>zp b (h.ro i a),fun i a=>zp b (h.se i a),h.far⟩
theorem qz.other {T:Nat->Prop}(h:qz w base v N S A B C)(j:zA w w' T)(f:∀ b,T b->∃ cs t,w.heap[b]?=some (.cells cs t (0,0))/\55≠t/\84≠t/\93≠t/\99≠t):qz w' base v N S A B C :=
 ⟨j.own h.row (fun g e s=>by obtain⟨cs,t,c,d,_⟩:=f g s;exact qD h.row c d g e rfl),fun i a=>j.own (h.st i a) (fun g e s=>by obtain⟨cs,t,c,_,d,_⟩:=f g s;exact qD (h.st i a) c d g e rfl),
  fun i a=>j.own (h.ro i a) (fun g e s=>by obtain⟨cs,t,c,_,_,d,_⟩:=f g s;exact qD (h.ro i a) c d g e rfl),fun i a=>j.own (h.se i a) (fun g e s=>by obtain⟨cs,t,c,_,_,_,d⟩:=f g s;exact qD (h.se i a) c d g e rfl),h.far⟩
theorem qz.lower {b1 b2:Nat}(h:qz w b1 v N S A B C)(b:b2<=b1):qz w b2 v N S A B C :=
 ⟨zC h.row b,fun i a=>zC (h.st i a) b,fun i a=>zC (h.ro i a) b,fun i a=>zC (h.se i a) b,h.far⟩
theorem qz.nil (w:World)(base:Nat)(S:Nat->qm)(A B C:Nat->Value):qz w base (.slice none 0 0) 0 S A B C :=
 ⟨⟨rfl,.inl ⟨rfl,rfl⟩⟩,fun i a=>by omega,fun i a=>by omega,fun i a=>by omega,fun i j a=>by omega,fun i j a=>by omega,fun i j a=>by omega⟩
theorem qz.is (h:qz w base v N S A B C){k:Nat}(a:k<N):qm.Is w (ldC A B C k) (S k):=by
 obtain⟨i,m,b,p,s,x⟩:=zr (h.st k a);obtain⟨j,n,c,q,t,y⟩:=zr (h.ro k a);obtain⟨l,o,d,r,u,z⟩:=zr (h.se k a);have e:=h.st k a;have f:=h.ro k a;have g:=h.se k a;rw[b] at e;rw[c] at f;rw[d] at g;unfold maxLen at s t u;exact⟨i,m,j,n,l,o,by unfold ldC;rw[b,c,d],QJ e,⟨p,by omega,x⟩,Zn f,⟨q,by omega,y⟩,ZK g,⟨r,by omega,z⟩⟩
theorem qz.at {a:Option Addr}{c:Nat}(h:qz w base (.slice a N c) N S A B C):Zw w a N S:=by
 refine⟨ldC A B C,fun k b=>?_,fun k b=>h.is b⟩
 obtain⟨g,rfl,_,_⟩:=own_addr h.row (by omega)
 refine⟨g,0,rfl,fun j d=>?_⟩
 rw[Nat.zero_add,zx h.row (k*3+j) (by omega) rfl,zz 3 _ k j d]
theorem FarV.snoc {A:Nat->Value}{k lim:Nat}{a:Value}(h:FarV k A)(f:∀ i,i<k->∀ b,(A i).ownBlock=some b->b<lim)(g:∀ b,a.ownBlock=some b->lim<=b):FarV (k+1) (atV A k a):=fun i j hi hj e b d c=>by
 by_cases ei:i=k
 ·subst ei
  rw[atV_at] at d;rw[atV_ne _ _ _ _ (fun h=>e h.symm)] at c
  have:=f j (by omega) b c
  have:=g b d
  omega
 ·rw[atV_ne _ _ _ _ ei] at d
  by_cases ej:j=k
  ·subst ej
   rw[atV_at] at c;have:=f i (by omega) b d
   have:=g b c
   omega
  ·rw[atV_ne _ _ _ _ ej] at c
   exact h i j (by omega) (by omega) e b d c
theorem qz.snoc {k:Nat}{v' a b c:Value}{lim:Nat}(h:qz w base v k S A B C)(d:∀ i,i<k->(∀ g,(A i).ownBlock=some g->g<lim)/\(∀ g,(B i).ownBlock=some g->g<lim)/\(∀ g,(C i).ownBlock=some g->g<lim))
  (p:w.ownsRow lim 84 4 a (S k).stn (zN (S k).st (S k).stn)) (q:w.ownsRow lim 93 4 b (S k).ron (zK (S k).ro (S k).ron)) (r:w.ownsRow lim 99 2 c (S k).sen (zJ (S k).se (S k).sen)) (j:base<=lim) (y:w.grownBy w' v.ownBlock)
  (l:w'.ownsRow base 55 3 v' (k+1) (zaW A B C k++[a,b,c])):qz w' base v' (k+1) S (atV A k a) (atV B k b) (atV C k c):=by
 have z:=zS y;have far:∀ {t s n:Nat} {u:Value} {x:List Value},w.ownsRow base t s u n x->55≠t->w'.ownsRow base t s u n x:=fun l D=>z.own l (fun g m o=>own_apart h.row l D g o m)
 refine⟨?_,fun i f=>?_,fun i f=>?_,fun i f=>?_,h.far.1.snoc (fun i f=>(d i f).1) (fun b e=>(p.lt b e).1),h.far.2.1.snoc (fun i f=>(d i f).2.1) (fun b e=>(q.lt b e).1),h.far.2.2.snoc (fun i f=>(d i f).2.2) (fun b e=>(r.lt b e).1)⟩
 ·have e:zaW (atV A k a) (atV B k b) (atV C k c) (k+1)=zaW A B C k++[a,b,c]:=zbY 3 (by decide) (ldC A B C) (ldC (atV A k a) (atV B k b) (atV C k c)) k _ rfl (fun i f=>by unfold ldC;rw[atV_ne _ _ _ _ (by omega),atV_ne _ _ _ _ (by omega),atV_ne _ _ _ _ (by omega)]) (by unfold ldC;rw[atV_at,atV_at,atV_at])
  rw[e];exact l
 ·by_cases e:i=k
  ·subst e;rw[atV_at];exact far (zC p j) (by decide)
  ·rw[atV_ne _ _ _ _ e];exact far (h.st i (by omega)) (by decide)
 ·by_cases e:i=k
  ·subst e;rw[atV_at];exact far (zC q j) (by decide)
  ·rw[atV_ne _ _ _ _ e];exact far (h.ro i (by omega)) (by decide)
 ·by_cases e:i=k
  ·subst e;rw[atV_at];exact far (zC r j) (by decide)
  ·rw[atV_ne _ _ _ _ e];exact far (h.se i (by omega)) (by decide)
end
end
structure Off where
 san:Nat
 sa:Nat->Sail
 ldn:Nat
 ld:Nat->qm
 bkn:Nat
 bk:Nat->qi
def Off.Is (w:World)(cs:List Value)(x:Off):Prop :=
 ∃ asa csa ald cld abk cbk,cs=[.slice asa x.san csa,.slice ald x.ldn cld,.slice abk x.bkn cbk]/\SailsAt w asa x.san x.sa/\zZ asa x.san csa/\Zw w ald x.ldn x.ld/\zZ ald x.ldn cld/\qK w abk x.bkn x.bk/\zZ abk x.bkn cbk
theorem Off.Is.below {w w':World}{cs:List Value}{x:Off}(h:Off.Is w cs x)(i:Below w.heap.size w w'):Off.Is w' cs x:=by
 obtain⟨c,g,b,f,a,d,e,j,m,k,n,l,o⟩:=h;exact⟨c,g,b,f,a,d,e,j.below i,m,k.below i,n,l.below i,o⟩
def Off.Short (x:Off)(B:Nat):Prop:=(x.san<=B/\ShortAll x.san x.sa B)/\(x.ldn<=B/\zbI x.ldn x.ld B)/\(x.bkn<=B/\QU x.bkn x.bk B)
section
open Go.RowKit
theorem zeQ (S:Nat->Sail)(L C:Nat->Value)(k:Nat)(lv a:Value) :
  (List.range ((k+1)*8)).map (sailCell S (atV L k lv) (atV C k a))=(List.range (k*8)).map (sailCell S L C)++[int i64 (S k).id,.string (S k).fr,.string (S k).dst,int i64 (S k).dep,int i64 (S k).arr,lv,a,int i64 (S k).most]:=by
 rw[show(k+1)*8=k*8+1+1+1+1+1+1+1+1 by omega,List.range_succ,List.range_succ,List.range_succ,List.range_succ,List.range_succ,List.range_succ,List.range_succ,List.range_succ]
 simp only[List.map_append,List.map_cons,List.map_nil,List.append_assoc,List.cons_append,List.nil_append];rw[sailCell_0,sailCell_1,show k*8+1+1=k*8+2 by omega,sailCell_2,show k*8+2+1=k*8+3 by omega,sailCell_3,show k*8+3+1=k*8+4 by omega,sailCell_4,show k*8+4+1=k*8+5 by omega,sailCell_5,show k*8+5+1=k*8+6 by omega,sailCell_6,show k*8+6+1=k*8+7 by omega,sailCell_7,atV_at,atV_at]
 congr 1
 refine List.map_congr_left fun j b=>?_
 have c:j<k*8:=by simpa using b
 unfold sailCell;rw[atV_ne _ _ _ _ (show j / 8≠k by omega),atV_ne _ _ _ _ (show j / 8≠k by omega)]
theorem OwnSails.snoc {w w':World}{base k:Nat}{v v':Value}{S:Nat->Sail}{L C:Nat->Value}{lv p:Value}{lim:Nat}(h:OwnSails w base v k S L C)(m:∀ i,i<k->(∀ b,(L i).ownBlock=some b->b<lim)/\(∀ b,(C i).ownBlock=some b->b<lim))
  (hl:w.ownsRow lim 88 2 lv (S k).la.n (zR (S k).la)) (s:w.ownsRow lim 96 2 p (S k).ca.n (zR (S k).ca)) (l:base<=lim) (t:w.grownBy w' v.ownBlock)
  (x:w'.ownsRow base 33 8 v' (k+1) ((List.range (k*8)).map (sailCell S L C)++[int i64 (S k).id,.string (S k).fr,.string (S k).dst,int i64 (S k).dep,int i64 (S k).arr,lv,p,int i64 (S k).most])) :
  OwnSails w' base v' (k+1) S (atV L k lv) (atV C k p):=by
 have o:=zS t;refine⟨by rw[zeQ];exact x,fun i u=>?_,fun i u=>?_,fun i j n hj=>?_⟩
 ·by_cases e:i=k
  ·subst e;rw[atV_at];exact o.own (zC hl l) (fun g d f=>own_apart h.row (zC hl l) (by decide) g f d)
  ·rw[atV_ne _ _ _ _ e];exact o.own (h.la i (by omega)) (fun g d f=>own_apart h.row (h.la i (by omega)) (by decide) g f d)
 ·by_cases e:i=k
  ·subst e;rw[atV_at];exact o.own (zC s l) (fun g d f=>own_apart h.row (zC s l) (by decide) g f d)
  ·rw[atV_ne _ _ _ _ e];exact o.own (h.ca i (by omega)) (fun g d f=>own_apart h.row (h.ca i (by omega)) (by decide) g f d)
 ·by_cases e:j=k
  ·subst e
   rw[atV_at,atV_at,atV_ne _ _ _ _ (by omega),atV_ne _ _ _ _ (by omega)]
   refine⟨fun b q r=>?_,fun b q r=>?_⟩
   ·have a:=(m i n).1 b q
    have c:=(hl.lt b r).1
    omega
   ·have a:=(m i n).2 b q
    have c:=(s.lt b r).1
    omega
  ·rw[atV_ne _ _ _ _ e,atV_ne _ _ _ _ e,atV_ne _ _ _ _ (by omega),atV_ne _ _ _ _ (by omega)]
   exact h.apart i j n (by omega)
theorem off_at0 {w:World}{g t:Nat}{u0 u1 u2:Value}(h:w.heap[g]?=some (.cells #[u0,u1,u2] t (0,0)))(v:Value):(w.setCell ⟨g,0,none⟩ v).heap[g]?=some (.cells #[v,u1,u2] t (0,0)):=by simpa using zt h 0 v
theorem off_at1 {w:World}{g t:Nat}{u0 u1 u2:Value}(h:w.heap[g]?=some (.cells #[u0,u1,u2] t (0,0)))(v:Value):(w.setCell ⟨g,1,none⟩ v).heap[g]?=some (.cells #[u0,v,u2] t (0,0)):=by simpa using zt h 1 v
theorem zfP {w:World}{g t:Nat}{u0 u1 u2:Value}(h:w.heap[g]?=some (.cells #[u0,u1,u2] t (0,0)))(v:Value):(w.setCell ⟨g,2,none⟩ v).heap[g]?=some (.cells #[u0,u1,v] t (0,0)):=by simpa using zt h 2 v
theorem zG {w:World}{base e size n:Nat}{v:Value}{d:List Value}(h:w.ownsRow base e size v n d):∀ g,v.ownBlock=some g->∃ cs,w.heap[g]?=some (.cells cs e (0,0)):=fun g a=>by
 rcases h.2 with⟨rfl,_⟩|⟨g',c,cur,rfl,_,b,_⟩
 ·cases a
 ·simp[Value.ownBlock] at a
  subst a;exact⟨cur,b⟩
theorem OwnSails.other {w w':World}{base:Nat}{v:Value}{N:Nat}{S:Nat->Sail}{L C:Nat->Value}{T:Nat->Prop}(h:OwnSails w base v N S L C)(j:zA w w' T)(f:∀ b,T b->∃ cs t,w.heap[b]?=some (.cells cs t (0,0))/\33≠t/\88≠t/\96≠t):OwnSails w' base v N S L C :=
 ⟨j.own h.row (fun g d s=>by obtain⟨cs,t,a,c,_⟩:=f g s;exact qD h.row a c g d rfl),fun i e=>j.own (h.la i e) (fun g d s=>by obtain⟨cs,t,a,_,c,_⟩:=f g s;exact qD (h.la i e) a c g d rfl),
  fun i e=>j.own (h.ca i e) (fun g d s=>by obtain⟨cs,t,a,_,_,c⟩:=f g s;exact qD (h.ca i e) a c g d rfl),h.apart⟩
structure zy (w:World)(base:Nat)(c d e:Value)(a b n3:Nat)(x:Off)(L C A B D E:Nat->Value):Prop where
 sa:OwnSails w base c a x.sa L C
 ld:qz w base d b x.ld A B D
 bk:qR w base e n3 x.bk E
section
variable {w w' : World} {base : Nat} {v1 v2 v3 : Value} {n1 n2 n3 : Nat} {x : Off} {L C A B D E : Nat -> Value}
theorem zy.below (h:zy w base v1 v2 v3 n1 n2 n3 x L C A B D E)(a:Below w.heap.size w w'):zy w' base v1 v2 v3 n1 n2 n3 x L C A B D E:=⟨h.sa.below a,h.ld.below a,h.bk.below a⟩
theorem zy.lower {b1 b2:Nat}(h:zy w b1 v1 v2 v3 n1 n2 n3 x L C A B D E)(a:b2<=b1):zy w b2 v1 v2 v3 n1 n2 n3 x L C A B D E:=⟨h.sa.base a,h.ld.lower a,h.bk.lower a⟩
theorem zy.box {g t:Nat}{cs:Array Value}(h:zy w base v1 v2 v3 n1 n2 n3 x L C A B D E)(d:zA w w' (fun b=>b=g))(c:w.heap[g]?=some (.cells cs t (0,0)))(a:33≠t/\88≠t/\96≠t/\55≠t/\84≠t/\93≠t/\99≠t/\43≠t/\3≠t):zy w' base v1 v2 v3 n1 n2 n3 x L C A B D E :=
 ⟨h.sa.other d (fun b e=>by have e:b=g:=e;subst e;exact⟨cs,t,c,a.1,a.2.1,a.2.2.1⟩),h.ld.other d (fun b e=>by have e:b=g:=e;subst e;exact⟨cs,t,c,a.2.2.2.1,a.2.2.2.2.1,a.2.2.2.2.2.1,a.2.2.2.2.2.2.1⟩),h.bk.other d (fun b e=>by have e:b=g:=e;subst e;exact⟨cs,t,c,a.2.2.2.2.2.2.2.1,a.2.2.2.2.2.2.2.2⟩)⟩
theorem zy.load {v' a b c:Value}{k lim:Nat}(h:zy w base v1 v2 v3 n1 k n3 x L C A B D E)(d:∀ i,i<k->(∀ g,(A i).ownBlock=some g->g<lim)/\(∀ g,(B i).ownBlock=some g->g<lim)/\(∀ g,(D i).ownBlock=some g->g<lim))
  (m:w.ownsRow lim 84 4 a (x.ld k).stn (zN (x.ld k).st (x.ld k).stn)) (n:w.ownsRow lim 93 4 b (x.ld k).ron (zK (x.ld k).ro (x.ld k).ron)) (o:w.ownsRow lim 99 2 c (x.ld k).sen (zJ (x.ld k).se (x.ld k).sen)) (j:base<=lim) (l:w.grownBy w' v2.ownBlock)
  (p:w'.ownsRow base 55 3 v' (k+1) (zaW A B D k++[a,b,c])):zy w' base v1 v' v3 n1 (k+1) n3 x L C (atV A k a) (atV B k b) (atV D k c) E :=
 ⟨h.sa.other (zS l) (fun g e=>by obtain⟨cs,f⟩:=zG h.ld.row g e;exact⟨cs,_,f,by decide,by decide,by decide⟩),h.ld.snoc d m n o j l p,h.bk.other (zS l) (fun g e=>by obtain⟨cs,f⟩:=zG h.ld.row g e;exact⟨cs,_,f,by decide,by decide⟩)⟩
theorem zy.book {v' lv:Value}{k lim:Nat}(h:zy w base v1 v2 v3 n1 n2 k x L C A B D E)(a:∀ i,i<k->∀ b,(E i).ownBlock=some b->b<lim)
  (hl:w.ownsRow lim 3 1 lv (x.bk k).lgn (zw (x.bk k).lg (x.bk k).lgn)) (d:base<=lim) (f:w.grownBy w' v3.ownBlock)
  (j:w'.ownsRow base 43 13 v' (k+1) (Qq x.bk E k++bkC x.bk (atV E k lv) k)):zy w' base v1 v2 v' n1 n2 (k+1) x L C A B D (atV E k lv) :=
 ⟨h.sa.other (zS f) (fun g e=>by obtain⟨cs,c⟩:=zG h.bk.row g e;exact⟨cs,_,c,by decide,by decide,by decide⟩),h.ld.other (zS f) (fun g e=>by obtain⟨cs,c⟩:=zG h.bk.row g e;exact⟨cs,_,c,by decide,by decide,by decide,by decide⟩),h.bk.snoc a hl d f j⟩
theorem zy.is {a b c:Option Addr}{d e f:Nat}(h:zy w base (.slice a x.san d) (.slice b x.ldn e) (.slice c x.bkn f) x.san x.ldn x.bkn x L C A B D E):Off.Is w [.slice a x.san d,.slice b x.ldn e,.slice c x.bkn f] x:=by
 obtain⟨_,_,g,k,n,q⟩:=zr h.sa.row;obtain⟨_,_,i,l,o,r⟩:=zr h.ld.row;obtain⟨_,_,j,m,p,s⟩:=zr h.bk.row;simp only[Value.slice.injEq] at g i j;obtain⟨rfl,_,rfl⟩:=g;obtain⟨rfl,_,rfl⟩:=i;obtain⟨rfl,_,rfl⟩:=j;unfold maxLen at n o p;exact⟨a,d,b,e,c,f,rfl,h.sa.at,⟨k,by omega,q⟩,h.ld.at,⟨l,by omega,r⟩,h.bk.at,⟨m,by omega,s⟩⟩
end
end
end Go.Proofs.YtgmdnkngnhkgbaaGreat

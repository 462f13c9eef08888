/-
  OWN TEXT: KitLds, KitOwO, KitEn, KitY, KitIt, SettB, PlainH2.
-/
import Derived.Deep.CutBlock
import Derived.Test.YtmdnjgihooflfaaGreatDoorB08
namespace Go.Proofs.YtmdnjgihooflfaaGreatDoor
open Go.RowKit
open Go.Value (int)
open Go.IntKind (i64)
open Tryz
set_option maxHeartbeats 64000000
set_option maxRecDepth 100000
section
open Go.RowKit
def ldC (A B C:Nat->Value)(k:Nat):List Value:=[A k,B k,C k]
def zdZ (A B C:Nat->Value)(N:Nat):List Value:=(List.range (N*3)).map (zZ 3 (ldC A B C))
def zog (N:Nat)(A:Nat->Value):Prop:=∀ i j,i<N->j<N->i≠j->∀ b,(A i).ownBlock=some b->(A j).ownBlock≠some b
structure qC (w:World)(base:Nat)(v:Value)(N:Nat)(S:Nat->zY)(A B C:Nat->Value):Prop where
 row:w.ownsRow base 145 3 v N (zdZ A B C N)
 st:∀ i,i<N->w.ownsRow base 220 4 (A i) (S i).stn (zy (S i).st (S i).stn)
 ro:∀ i,i<N->w.ownsRow base 228 4 (B i) (S i).ron (zw (S i).ro (S i).ron)
 se:∀ i,i<N->w.ownsRow base 234 2 (C i) (S i).sen (zB (S i).se (S i).sen)
 far:zog N A/\zog N B/\zog N C
section
variable {w w' : World} {base : Nat} {v : Value} {N : Nat} {S : Nat -> zY} {A B C : Nat -> Value}
theorem qC.below (h:qC w base v N S A B C)(b:Below w.heap.size w w'):qC w' base v N S A B C :=
 ⟨zo b h.row,λi a=>zo b (h.st i a),λi a=>zo b (h.ro i a),λi a=>zo b (h.se i a),h.far⟩
theorem qC.other {T:Nat->Prop}(h:qC w base v N S A B C)(e:zx w w' T)(d:∀ b,T b->∃ cs t,w.heap[b]?=some (.cells cs t (0,0))/\145≠t/\220≠t/\228≠t/\234≠t):qC w' base v N S A B C :=
 ⟨e.own h.row (λg c s=>by obtain⟨cs,t,h1,h2,_⟩:=d g s;exact zQ h.row h1 h2 g c rfl),λi a=>e.own (h.st i a) (λg c s=>by obtain⟨cs,t,h1,_,h2,_⟩:=d g s;exact zQ (h.st i a) h1 h2 g c rfl),
  λi a=>e.own (h.ro i a) (λg c s=>by obtain⟨cs,t,h1,_,_,h2,_⟩:=d g s;exact zQ (h.ro i a) h1 h2 g c rfl),λi a=>e.own (h.se i a) (λg c s=>by obtain⟨cs,t,h1,_,_,_,h2⟩:=d g s;exact zQ (h.se i a) h1 h2 g c rfl),h.far⟩
theorem qC.lower {c d:Nat}(h:qC w c v N S A B C)(b:d<=c):qC w d v N S A B C :=
 ⟨zu h.row b,λi a=>zu (h.st i a) b,λi a=>zu (h.ro i a) b,λi a=>zu (h.se i a) b,h.far⟩
theorem qC.nil (w:World)(base:Nat)(S:Nat->zY)(A B C:Nat->Value):qC w base True 0 S A B C :=
 ⟨⟨rfl,.inl ⟨rfl,rfl⟩⟩,λi a=>by omega,λi a=>by omega,λi a=>by omega,λi j a=>by omega,λi j a=>by omega,λi j a=>by omega⟩
theorem qC.is (h:qC w base v N S A B C){k:Nat}(a:k<N):zY.Is w (ldC A B C k) (S k):=by
 obtain⟨i,c1,b,m,p,s⟩:=zp (h.st k a);obtain⟨j,c2,c,n,q,t⟩:=zp (h.ro k a);obtain⟨l,c3,d,o,r,u⟩:=zp (h.se k a);have e:=h.st k a;have f:=h.ro k a;have g:=h.se k a;rw[b] at e;rw[c] at f;rw[d] at g;unfold maxLen at p q r;exact⟨i,c1,j,c2,l,c3,by unfold ldC;rw[b,c,d],zbK e,⟨m,by omega,s⟩,QR f,⟨n,by omega,t⟩,QS g,⟨o,by omega,u⟩⟩
theorem qC.at {a:Option Addr}{c:Nat}(h:qC w base (a,N,c) N S A B C):ZG w a N S:=by
 refine⟨_,λk b=>?_,λk b=>h.is b⟩
 obtain⟨g,rfl,_,_⟩:=qh h.row (by omega)
 refine⟨g,0,rfl,λj d=>?_⟩
 rw[Nat.zero_add,zs h.row _ (by omega) rfl,zC 3 _ k j d]
theorem zog.snoc {A:Nat->Value}{k lim:Nat}{a:Value}(h:zog k A)(h1:∀ i,i<k->∀ b,(A i).ownBlock=some b->b<lim)(h2:∀ b,a.ownBlock=some b->lim<=b):zog (k+1) (atV A k a):=λi j hi hj e b d c=>by
 by_cases ei:i=k
 ·subst ei
  rw[qu] at d;rw[qf _ _ _ _ (λh=>e h.symm)] at c
  have:=h1 j (by omega) b c
  have:=h2 b d
  omega
 ·rw[qf _ _ _ _ ei] at d
  by_cases ej:j=k
  ·subst ej
   rw[qu] at c;have:=h1 i (by omega) b d
   have:=h2 b c
   omega
  ·rw[qf _ _ _ _ ej] at c
   exact h i j (by omega) (by omega) e b d c
theorem qC.snoc {k:Nat}{p a b c:Value}{lim:Nat}(h:qC w base v k S A B C)(d:∀ i,i<k->(∀ g,(A i).ownBlock=some g->g<lim)/\(∀ g,(B i).ownBlock=some g->g<lim)/\(∀ g,(C i).ownBlock=some g->g<lim))
  (h1:w.ownsRow lim 220 4 a (S k).stn (zy (S k).st (S k).stn)) (h2:w.ownsRow lim 228 4 b (S k).ron (zw (S k).ro (S k).ron)) (h3:w.ownsRow lim 234 2 c (S k).sen (zB (S k).se (S k).sen)) (j:base<=lim) (q:w.grownBy w' v.ownBlock)
  (l:w'.ownsRow base 145 3 p (k+1) (zdZ A B C k++[a,b,c])):qC w' base p (k+1) S (atV A k a) (atV B k b) (atV C k c):=by
 have r:=qJ q;have far:∀ {t sz n:Nat} {u} {xs},_->145≠t->w'.ownsRow base t sz u n xs:=λl s=>r.own l (λg m o=>zI h.row l s g o m)
 refine⟨?_,λi f=>?_,λi f=>?_,λi f=>?_,h.far.1.snoc (λi f=>(d i f).1) (λb e=>(h1.lt b e).1),h.far.2.1.snoc (λi f=>(d i f).2.1) (λb e=>(h2.lt b e).1),h.far.2.2.snoc (λi f=>(d i f).2.2) (λb e=>(h3.lt b e).1)⟩
 ·have e:zdZ _ _ _ _=zdZ A B C k++_:=zfD 3 (by decide) _ (ldC (atV A k a) (atV B k b) (atV C k c)) k _ rfl (λi f=>by unfold ldC;rw[qf _ _ _ _ (by omega),qf _ _ _ _ (by omega),qf _ _ _ _ (by omega)]) (by unfold ldC;rw[qu,qu,qu])
  rw[e];exact l
 ·by_cases e:i=k
  ·subst e;rw[qu];exact far (zu h1 j) (by decide)
  ·rw[qf _ _ _ _ e];exact far (h.st i (by omega)) (by decide)
 ·by_cases e:i=k
  ·subst e;rw[qu];exact far (zu h2 j) (by decide)
  ·rw[qf _ _ _ _ e];exact far (h.ro i (by omega)) (by decide)
 ·by_cases e:i=k
  ·subst e;rw[qu];exact far (zu h3 j) (by decide)
  ·rw[qf _ _ _ _ e];exact far (h.se i (by omega)) (by decide)
end
end
section
open Go.RowKit
theorem zjY (S:Nat->Zj)(L C:Nat->Value)(k:Nat)(b a:Value) :
  (List.range ((k+1)*8)).map (qz S (atV L k b) (atV C k a))=(List.range (k*8)).map (qz S L C)++[int i64 (S k).id,.string (S k).fr,.string (S k).dst,int i64 (S k).dep,int i64 (S k).arr,b,a,int i64 (S k).most]:=by
 rw[show(k+1)*8=k*8+1+1+1+1+1+1+1+1 by omega,List.range_succ,List.range_succ,List.range_succ,List.range_succ,List.range_succ,List.range_succ,List.range_succ,List.range_succ]
 simp only[List.map_append,List.map_cons,List.map_nil,List.append_assoc,List.cons_append,List.nil_append];rw[zcd,zce,show k*8+1+1=k*8+2 by omega,zcf,show k*8+2+1=k*8+3 by omega,zcg,show k*8+3+1=k*8+4 by omega,zch,show k*8+4+1=k*8+5 by omega,Q2,show k*8+5+1=k*8+6 by omega,Q4,show k*8+6+1=k*8+7 by omega,zci,qu,qu]
 congr 1
 refine List.map_congr_left λj c=>?_
 have d:=by simpa using c
 unfold qz;rw[qf _ _ _ _ (show j / 8≠k by omega),qf _ _ _ _ (show j / 8≠k by omega)]
theorem qM.snoc {w w':World}{base k:Nat}{v t:Value}{S:Nat->Zj}{L C:Nat->Value}{s p:Value}{lim:Nat}(h:qM w base v k S L C)(m:∀ i,i<k->(∀ b,(L i).ownBlock=some b->b<lim)/\(∀ b,(C i).ownBlock=some b->b<lim))
  (r:w.ownsRow lim 223 2 s (S k).la.n (qd (S k).la)) (q:w.ownsRow lim 231 2 p (S k).ca.n (qd (S k).ca)) (l:base<=lim) (u:w.grownBy w' v.ownBlock)
  (y:w'.ownsRow base 140 8 t (k+1) ((List.range (k*8)).map (qz S L C)++[int i64 (S k).id,.string (S k).fr,.string (S k).dst,int i64 (S k).dep,int i64 (S k).arr,s,p,int i64 (S k).most])) :
  qM w' base t (k+1) S (atV L k s) (atV C k p):=by
 have o:=qJ u;refine⟨by rw[zjY];exact y,λi x=>?_,λi x=>?_,λi j n hj=>?_⟩
 ·by_cases e:i=k
  ·subst e;rw[qu];exact o.own (zu r l) (λg d f=>zI h.row (zu r l) (by decide) g f d)
  ·rw[qf _ _ _ _ e];exact o.own (h.la i (by omega)) (λg d f=>zI h.row (h.la i (by omega)) (by decide) g f d)
 ·by_cases e:i=k
  ·subst e;rw[qu];exact o.own (zu q l) (λg d f=>zI h.row (zu q l) (by decide) g f d)
  ·rw[qf _ _ _ _ e];exact o.own (h.ca i (by omega)) (λg d f=>zI h.row (h.ca i (by omega)) (by decide) g f d)
 ·by_cases e:j=k
  ·subst e
   rw[qu,qu,qf _ _ _ _ (by omega),qf _ _ _ _ (by omega)]
   refine⟨λb h1 h3=>?_,λb h1 h3=>?_⟩
   ·have a:=(m i n).1 b h1
    have c:=(r.lt b h3).1
    omega
   ·have a:=(m i n).2 b h1
    have c:=(q.lt b h3).1
    omega
  ·rw[qf _ _ _ _ e,qf _ _ _ _ e,qf _ _ _ _ (by omega),qf _ _ _ _ (by omega)]
   exact h.apart i j n (by omega)
theorem off_at0 {w:World}{g t:Nat}{u0 u1 u2:Value}(h:w.heap[g]?=some (.cells #[u0,u1,u2] t (0,0)))(v:Value):(w.setCell (g,0) v).heap[g]?=some (.cells #[v,u1,u2] t (0,0)):=by simpa using zm h 0 v
theorem off_at1 {w:World}{g t:Nat}{u0 u1 u2:Value}(h:w.heap[g]?=some (.cells #[u0,u1,u2] t (0,0)))(v:Value):(w.setCell (g,1) v).heap[g]?=some (.cells #[u0,v,u2] t (0,0)):=by simpa using zm h 1 v
theorem zlK {w:World}{g t:Nat}{u0 u1 u2:Value}(h:w.heap[g]?=some (.cells #[u0,u1,u2] t (0,0)))(v:Value):(w.setCell (g,2) v).heap[g]?=some (.cells #[u0,u1,v] t (0,0)):=by simpa using zm h 2 v
theorem zA {w:World}{base e size n:Nat}{v:Value}{f:List Value}(h:w.ownsRow base e size v n f):∀ g,v.ownBlock=some g->∃ cs,w.heap[g]?=some (.cells cs e (0,0)):=λg b=>by
 rcases h.2 with⟨rfl,_⟩|⟨g',c,a,rfl,_,d,_⟩
 ·cases b
 ·simp[Value.ownBlock] at b
  subst b;exact⟨a,d⟩
theorem qM.other {w w':World}{base:Nat}{v:Value}{N:Nat}{S:Nat->Zj}{L C:Nat->Value}{T:Nat->Prop}(h:qM w base v N S L C)(e:zx w w' T)(d:∀ b,T b->∃ cs t,w.heap[b]?=some (.cells cs t (0,0))/\140≠t/\223≠t/\231≠t):qM w' base v N S L C :=
 ⟨e.own h.row (λg a s=>by obtain⟨cs,t,h1,h2,_⟩:=d g s;exact zQ h.row h1 h2 g a rfl),λi c=>e.own (h.la i c) (λg a s=>by obtain⟨cs,t,h1,_,h2,_⟩:=d g s;exact zQ (h.la i c) h1 h2 g a rfl),
  λi c=>e.own (h.ca i c) (λg a s=>by obtain⟨cs,t,h1,_,_,h2⟩:=d g s;exact zQ (h.ca i c) h1 h2 g a rfl),h.apart⟩
structure zF (w:World)(base:Nat)(v1 v2 v3:Value)(a b c:Nat)(x:Off)(L C A B D E:Nat->Value):Prop where
 sa:qM w base v1 a x.sa L C
 ld:qC w base v2 b x.ld A B D
 bk:ZC w base v3 c x.bk E
section
variable {w w' : World} {base : Nat} {v1 v2 v3 : Value} {n1 n2 n3 : Nat} {x : Off} {L C A B D E : Nat -> Value}
theorem zF.below (h:zF w base v1 v2 v3 n1 n2 n3 x L C A B D E)(a:Below w.heap.size w w'):zF w' base v1 v2 v3 n1 n2 n3 x L C A B D E:=⟨h.sa.below a,h.ld.below a,h.bk.below a⟩
theorem zF.lower {b c:Nat}(h:zF w b v1 v2 v3 n1 n2 n3 x L C A B D E)(a:c<=b):zF w c v1 v2 v3 n1 n2 n3 x L C A B D E:=⟨h.sa.base a,h.ld.lower a,h.bk.lower a⟩
theorem zF.box {g t:Nat}{cs:Array Value}(h:zF w base v1 v2 v3 n1 n2 n3 x L C A B D E)(d:zx w w' (λb=>b=g))(c:w.heap[g]?=some (.cells cs t (0,0)))(a:140≠t/\223≠t/\231≠t/\145≠t/\220≠t/\228≠t/\234≠t/\150≠t/\3≠t):zF w' base v1 v2 v3 n1 n2 n3 x L C A B D E :=
 ⟨h.sa.other d (λb e=>by have e:=e;subst e;exact⟨cs,t,c,a.1,a.2.1,a.2.2.1⟩),h.ld.other d (λb e=>by have e:=e;subst e;exact⟨cs,t,c,a.2.2.2.1,a.2.2.2.2.1,a.2.2.2.2.2.1,a.2.2.2.2.2.2.1⟩),h.bk.other d (λb e=>by have e:=e;subst e;exact⟨cs,t,c,a.2.2.2.2.2.2.2.1,a.2.2.2.2.2.2.2.2⟩)⟩
theorem zF.load {m a b c:Value}{k lim:Nat}(h:zF w base v1 v2 v3 n1 k n3 x L C A B D E)(d:∀ i,i<k->(∀ g,(A i).ownBlock=some g->g<lim)/\(∀ g,(B i).ownBlock=some g->g<lim)/\(∀ g,(D i).ownBlock=some g->g<lim))
  (h1:w.ownsRow lim 220 4 a (x.ld k).stn (zy (x.ld k).st (x.ld k).stn)) (h2:w.ownsRow lim 228 4 b (x.ld k).ron (zw (x.ld k).ro (x.ld k).ron)) (h3:w.ownsRow lim 234 2 c (x.ld k).sen (zB (x.ld k).se (x.ld k).sen)) (j:base<=lim) (l:w.grownBy w' v2.ownBlock)
  (n:w'.ownsRow base 145 3 m (k+1) (zdZ A B D k++[a,b,c])):zF w' base v1 m v3 n1 (k+1) n3 x L C (atV A k a) (atV B k b) (atV D k c) E :=
 ⟨h.sa.other (qJ l) (λg e=>by obtain⟨cs,f⟩:=zA h.ld.row g e;exact⟨cs,_,f,by decide,by decide,by decide⟩),h.ld.snoc d h1 h2 h3 j l n,h.bk.other (qJ l) (λg e=>by obtain⟨cs,f⟩:=zA h.ld.row g e;exact⟨cs,_,f,by decide,by decide⟩)⟩
theorem zF.book {l j:Value}{k lim:Nat}(h:zF w base v1 v2 v3 n1 n2 k x L C A B D E)(a:∀ i,i<k->∀ b,(E i).ownBlock=some b->b<lim)
  (m:w.ownsRow lim 3 1 j (x.bk k).lgn (zS (x.bk k).lg (x.bk k).lgn)) (d:base<=lim) (f:w.grownBy w' v3.ownBlock)
  (n:w'.ownsRow base 150 13 l (k+1) (zbg x.bk E k++bkC x.bk (atV E k j) k)):zF w' base v1 v2 l n1 n2 (k+1) x L C A B D (atV E k j) :=
 ⟨h.sa.other (qJ f) (λg e=>by obtain⟨cs,c⟩:=zA h.bk.row g e;exact⟨cs,_,c,by decide,by decide,by decide⟩),h.ld.other (qJ f) (λg e=>by obtain⟨cs,c⟩:=zA h.bk.row g e;exact⟨cs,_,c,by decide,by decide,by decide,by decide⟩),h.bk.snoc a m d f n⟩
theorem zF.is {a b c:Option Addr}{c1 c2 c3:Nat}(h:zF w base (a,x.san,c1) (b,x.ldn,c2) (c,x.bkn,c3) x.san x.ldn x.bkn x L C A B D E):Off.Is w [(a,x.san,c1),(b,x.ldn,c2),(c,x.bkn,c3)] x:=by
 obtain⟨_,_,d,g,k,n⟩:=zp h.sa.row;obtain⟨_,_,e,i,l,o⟩:=zp h.ld.row;obtain⟨_,_,f,j,m,p⟩:=zp h.bk.row;simp only[Value.slice.injEq] at d e f;obtain⟨rfl,_,rfl⟩:=d;obtain⟨rfl,_,rfl⟩:=e;obtain⟨rfl,_,rfl⟩:=f;unfold maxLen at k l m;exact⟨a,c1,b,c2,c,c3,rfl,h.sa.at,⟨g,by omega,n⟩,h.ld.at,⟨i,by omega,o⟩,h.bk.at,⟨j,by omega,p⟩⟩
end
end
section
open Go.RowKit
def zah (S:Nat->ql)(k:Nat)(b:ql)(i:Nat):ql:=if i=k then b else S i
theorem ZL (S:Nat->ql)(k:Nat)(b:ql):zah S k b k=b:=Jf rfl
theorem zaf (S:Nat->ql)(k:Nat)(b:ql){i:Nat}(h:i≠k):zah S k b i=S i:=Je h
theorem setB_setB (S:Nat->ql)(k:Nat)(a b:ql):zah (zah S k a) k b=zah S k b:=by
 funext i
 unfold zah
 split <;> rfl
def qx (b:ql)(a:Int)(y:OpD):ql :=
 if y.kind=4 then { b with state:=2,unt:=0 }
 else if y.kind=5 then { b with who:=a,lgn:=y.lgn,lg:=y.lg,pe:=y.pe,len:=y.len,hei:=y.hei,cl:=y.cl,all:=y.all,be:=y.be,price:=zE ⟨y.pe,y.len,y.hei,y.cl,y.all,y.be⟩ y.lgn }
 else if y.kind=6 then { b with state:=3,unt:=0 }
 else if y.kind=7 then { b with own:=y.own }
 else { b with state:=4 }
def Qf (n:Nat)(a:Int)(y:OpD):ql :=
 ⟨(n:Int)+1,a,y.own,y.lgn,y.lg,y.pe,y.len,y.hei,y.cl,y.all,y.be,if y.kind=2 then 1 else 2,if y.kind=2 then y.unt else 0,zE ⟨y.pe,y.len,y.hei,y.cl,y.all,y.be⟩ y.lgn⟩
theorem zfd (sz:Nat)(a:0<sz){C b:Nat->List Value}{f:Nat->Value}{k:Nat}(h1:∀ r,r<sz->f (k*sz+r)=(b k).getD r (.bool false))(h2:∀ j,j / sz≠k->f j=zZ sz C j)(h3:∀ i,i≠k->b i=C i)(j:Nat):f j=zZ sz b j:=by
 by_cases e:j / sz=k
 ·have c:j=k*sz+j % sz:=by rw[← e,Nat.mul_comm];exact(Nat.div_add_mod j sz).symm
  rw[c,h1 _ (Nat.mod_lt _ a),zC sz _ _ _ (Nat.mod_lt _ a)]
 ·rw[h2 j e]
  unfold zZ;rw[h3 _ e]
section
variable {w w' : World} {base g c k N : Nat} {S : Nat -> ql} {E : Nat -> Value} {u : Value} {y : ql}
theorem ZC.put (h:ZC w base (some (g,0),N,c) N S E)(s:zx w w' (λb=>b=g))(a:w'.ownsRow base 150 13 (some (g,0),N,c) N (zbg (zah S k y) (atV E k u) N))(t:w.ownsRow base 3 1 u y.lgn (zS y.lg y.lgn))(m:∀ i,i<N->i≠k->∀ b,(E i).ownBlock=some b->u.ownBlock≠some b) :
  ZC w' base (some (g,0),N,c) N (zah S k y) (atV E k u):=by
 have far:∀ {n} {v} {xs},_->w'.ownsRow base 3 1 v n xs:=λp=>s.own p (λq f l=>zI h.row p (by decide) q (by rw[l];rfl) f)
 refine⟨a,λi r=>?_,λi j d o b h1 h2=>?_⟩
 ·by_cases e:i=k
  ·subst e;rw[qu,ZL];exact far t
  ·rw[qf _ _ _ _ e,zaf _ _ _ e];exact far (h.legs i r)
 ·by_cases e:i=k
  ·subst e
   rw[qu] at h1;rw[qf _ _ _ _ (by omega)] at h2
   exact m j o (by omega) b h2 h1
  ·rw[qf _ _ _ _ e] at h1
   by_cases e2:j=k
   ·subst e2
    rw[qu] at h2;exact m i (by omega) e b h1 h2
   ·rw[qf _ _ _ _ e2] at h2
    exact h.apart i j d o b h1 h2
theorem ZC.far_same (h:ZC w base (some (g,0),N,c) N S E)(e:k<N):∀ i,i<N->i≠k->∀ b,(E i).ownBlock=some b->(E k).ownBlock≠some b:=λi d a b h1 h2=>by
 rcases Nat.lt_or_gt_of_ne a with c|c
 ·exact h.apart i k c e b h1 h2
 ·exact h.apart k i c d b h2 h1
end
section
variable {w w' : World} {base g c k n1 n2 n3 : Nat} {v1 v2 u : Value} {x : Off} {L C A B D E : Nat -> Value} {y : ql}
theorem zF.putBk (h:zF w base v1 v2 (some (g,0),n3,c) n1 n2 n3 x L C A B D E)(f:zx w w' (λb=>b=g))(a:w'.ownsRow base 150 13 (some (g,0),n3,c) n3 (zbg (zah x.bk k y) (atV E k u) n3))(l:w.ownsRow base 3 1 u y.lgn (zS y.lg y.lgn))(j:∀ i,i<n3->i≠k->∀ b,(E i).ownBlock=some b->u.ownBlock≠some b) :
  zF w' base v1 v2 (some (g,0),n3,c) n1 n2 n3 { x with bk:=zah x.bk k y } L C A B D (atV E k u) :=
 ⟨h.sa.other f (λq e=>by obtain⟨cs,d⟩:=zA h.bk.row q (by rw[show _ from e];rfl);exact⟨cs,_,d,by decide,by decide,by decide⟩),h.ld.other f (λq e=>by obtain⟨cs,d⟩:=zA h.bk.row q (by rw[show _ from e];rfl);exact⟨cs,_,d,by decide,by decide,by decide,by decide⟩),h.bk.put f a l j⟩
end
section
variable {w w' : World} {base k n1 n2 : Nat} {v1 v2 v3 v' lv : Value} {x : Off} {L C A B D E : Nat -> Value}
theorem zF.addBk {lim:Nat}{nb:ql}(h:zF w base v1 v2 v3 n1 n2 k x L C A B D E)(a:∀ i,i<k->∀ b,(E i).ownBlock=some b->b<lim)
  (n:w.ownsRow lim 3 1 lv nb.lgn (zS nb.lg nb.lgn)) (c:base<=lim) (g:w.grownBy w' v3.ownBlock)
  (d:w'.ownsRow base 150 13 v' (k+1) (zbg x.bk E k++bkC (zah x.bk k nb) (atV E k lv) k)):zF w' base v1 v2 v' n1 n2 (k+1) { x with bkn:=k+1,bk:=zah x.bk k nb } L C A B D (atV E k lv):=by
 have f:=h.bk.congr (S':=zah _ k nb) (λi hi=>(zaf _ _ _ (by omega)).symm)
 have h2:zF w _ v1 v2 v3 n1 n2 k { x with bkn:=k+1,bk:=zah _ k nb } L C A B D E:=⟨h.sa,h.ld,f⟩;have e:zbg _ E k=zbg (zah x.bk k nb) E k:=List.map_congr_left λj l=>by
  have m:=by simpa using l
  unfold zZ bkC;rw[zaf _ _ _ (show j / 13≠k by omega)]
 rw[e] at d;exact h2.book a (by show w.ownsRow lim 3 1 lv (zah _ k nb k).lgn (zS (zah _ k nb k).lg (zah _ k nb k).lgn);rw[ZL];exact n) c g d
end
def zdm (g base N f c:Nat)(b a:Option Addr)(T:Nat->Prop)(h:Off)(d name price:Int)(i:World->Value->Prop)(L C A B D:Nat->Value)(w:World)(e:Ending)(w':World):Prop :=
 ∃ abk cbk rv E,e=.returned (.agg #[d,name,price,rv])/\i w' rv/\zF w' base (b,N,f) (a,N,c) (abk,h.bkn,cbk) N N h.bkn h L C A B D E /\
  w'.heap[g]?=some (.cells #[.slice b N f,.slice a N c,.slice abk h.bkn cbk] 38 (0,0))/\zx w w' T
theorem zcJ {w:World}{g t:Nat}{u0 u1 u2 u3:Value}(h:w.heap[g]?=some (.cells #[u0,u1,u2,u3] t (0,0)))(v0 v1 v2 v3:Value):((((w.setCell (g,0) v0).setCell (g,1) v1).setCell (g,2) v2).setCell (g,3) v3).heap[g]?=some (.cells #[v0,v1,v2,v3] t (0,0)):=by
 simpa using zm (zm (zm (zm h 0 v0) 1 v1) 2 v2) 3 v3
theorem zaU (w:World)(g:Nat)(v0 v1 v2 v3:Value):zx w ((((w.setCell ⟨g,0,none⟩ v0).setCell ⟨g,1,none⟩ v1).setCell ⟨g,2,none⟩ v2).setCell ⟨g,3,none⟩ v3) (λb=>b=g):=((((zx.refl w (λb=>b=g)).set (a:=⟨g,0,none⟩) rfl v0).set (a:=⟨g,1,none⟩) rfl v1).set (a:=⟨g,2,none⟩) rfl v2).set (a:=⟨g,3,none⟩) rfl v3
theorem ans_at2 {w:World}{g t:Nat}{u0 u1 u2 u3:Value}(h:w.heap[g]?=some (.cells #[u0,u1,u2,u3] t (0,0)))(v:Value):(w.setCell (g,2) v).heap[g]?=some (.cells #[u0,u1,v,u3] t (0,0)):=by simpa using zm h 2 v
theorem keptN {w w':World}{T:Nat->Prop}(h:zx w w' T){b i:Nat}(hb:w.heap.size<=b)(u:Value):zx w (w'.setCell (b,i) u) T :=
 ⟨h.os,h.tape,h.output,by have:=h.size;simpa using this,λk a c=>(Below.heap_setCell w' (b,i) u k (by show k≠b;omega)).trans (h.block k a c)⟩
theorem ints_off {w w':World}{c:Option Addr}{n base gb:Nat}{F:Nat->Int}(g:zx w w' (λb=>b=gb))(h:zT w c n F)(e:0<n->∀ a,c=some a->a.block<base)(hg:base<=gb):zT w' c n F:=λk d=>by
 obtain⟨b,off,rfl,f⟩:=h k d;have hb:b<base:=e (by omega) _ rfl
 have i:=g.block b (Ja w _ f) (by show _;omega)
 refine⟨b,off,rfl,?_⟩;rw[← f];unfold World.cell?;simp only[i]
theorem QV {w w':World}{T:Nat->Prop}(h:zx w w' T){a:Addr}{v:Value}(b:w.cell? a=some v)(c:¬ T a.block):w'.cell? a=some v:=by
 have:=h.block _ (Ja w _ b) c;unfold World.cell? at b ⊢;rw[this];exact b
theorem zbC {w Z:World}{T:Nat->Prop}{g c base k l m:Nat}{v1 v2 v3 n o p u0 u1 u2 u3:Value}{x:Off}{L C A B D E:Nat->Value}(d:zx w Z T)(h:zF Z base v1 v2 v3 k l m x L C A B D E)(j:Z.heap[g]?=some (.cells #[n,o,p] 38 (0,0)))(b:Z.heap[c]?=some (.cells #[u0,u1,u2,u3] 41 (0,0)))(a:w.heap.size<=c)(i c1 c2 c3:Value){F:World}(q:F=(((Z.setCell ⟨c,0,none⟩ i).setCell ⟨c,1,none⟩ c1).setCell ⟨c,2,none⟩ c2).setCell ⟨c,3,none⟩ c3) :
  zF F base v1 v2 v3 k l m x L C A B D E/\F.heap[g]?=some (.cells #[n,o,p] 38 (0,0))/\zx w F T/\F.heap[c]?=some (.cells #[i,c1,c2,c3] 41 (0,0)):=by
 subst q;have f:g≠c:=λe=>by subst e;rw[j] at b;simp at b
 exact⟨h.box (zaU _ _ _ _ _ _) b (by decide),(zaU _ _ _ _ _ _).blk j f,keptN (keptN (keptN (keptN d a _) a _) a _) a _,zcJ b _ _ _ _⟩
theorem zgr {w Z:World}{T:Nat->Prop}{g h d base q r s:Nat}{v1 v2 v3 t u v u0 u1 u2 u3 y z I G:Value}{x:Off}{L C A B D E:Nat->Value}(k:zx w Z T)(m:zF Z base v1 v2 v3 q r s x L C A B D E)(o:Z.heap[g]?=some (.cells #[t,u,v] 38 (0,0)))(i:Z.heap[h]?=some (.cells #[u0,u1,u2,u3] 41 (0,0)))(c:Z.heap[d]?=some (.cells #[y,z,I,G] 41 (0,0)))(f:h≠d)(n:w.heap.size<=d)(p:Value){F:World}(H:F=Z.setCell (d,2) p) :
  zF F base v1 v2 v3 q r s x L C A B D E/\F.heap[g]?=some (.cells #[t,u,v] 38 (0,0))/\zx w F T/\F.heap[h]?=some (.cells #[u0,u1,u2,u3] 41 (0,0))/\F.heap[d]?=some (.cells #[y,z,p,G] 41 (0,0)):=by
 subst H;have l:g≠d:=λe=>by subst e;rw[o] at c;simp at c
 have j:=(zx.refl Z (λb=>b=d)).set (a:=(d,2)) rfl p
 exact⟨m.box j c (by decide),j.blk o l,keptN k n _,j.blk i f,ans_at2 c p⟩
end
section
open Go.RowKit
section
variable {P : Program} {ops : Array Oper} {Q : Exit -> Act -> World -> Prop} {md : Region.Mode} {S : World -> Prop} {z : Nat}
theorem ziB {i:Nat}{q:Oper}{v:Value}(C:ops[i]?=some q)(hz:z=ops.size)(n:∀ (j:Nat)(o:Oper) cs b,ops[j]?=some o->o.op≠.select cs b)
  (J:∀ c a w,Q (.panic c) (a.put q.dst v) w->Q (.panic c) a w) :
  ∀ (fuel:Nat) (d:Array Bool) (a:Act) (w:World),
   (∀ j p,ops[j]?=some p->j≠i->d.getD j true=false->(∀ e ∈ p.after,Region.binds md e=true->e.on≠i)->q.apart ops p=true) ->
   i ∈ Region.ready md ops d->YieldsIf P ops S q v a->S w ->
   QM P md ops Q S z fuel (d.setIfInBounds i true) (a.put q.dst v) w->QM P md ops Q S z (fuel+1) d a w:=by
 intro fuel
 induction fuel with
 | zero =>
  intro d a w _ hr y r H;refine⟨λh=>(by rw[h] at hr;cases hr),λj x=>?_⟩
  by_cases hji:j=i
  ·subst hji;exact y.wpOp C r ⟨λ_=>r,H⟩
  ·have:=ready_mono x hji
   rw[H.1] at this
   cases this
 | succ fuel ih =>
  intro d a w f hr y r H;refine⟨λh=>(by rw[h] at hr;cases hr),λj x=>?_⟩
  by_cases hji:j=i
  ·subst hji;exact y.wpOp C r ⟨λ_=>r,H⟩
  ·have h1:=H.2 j (ready_mono x hji)
   obtain⟨m,p,l,s⟩:=mem_ready.1 x;have D:j≠z:=λe=>by
    have:=(Array.getElem?_eq_some_iff.1 l).1
    omega
   have t:∀ e ∈ p.after,_->e.on≠i:=λe L K B=>by
    have h1:=s e L K;have G:=(mem_ready.1 hr).1;rw[B] at h1
    rcases Nat.lt_or_ge i d.size with A|A
    ·simp[A] at G h1;rw[G] at h1;cases h1
    ·simp[Array.getElem?_eq_none A] at h1
   have h2:=wpOp_putIf l (f j p l hji m t) (λcs b=>n i q cs b C) (λcs b=>n j p cs b l) J y h1
   have g:∀ k ok,_->_->(d.setIfInBounds j _).getD k _=false ->
     _:=λk ok M E u F=>by
    refine f k ok M E ?_ F
    by_cases hjk:j=k
    ·subst hjk;exact m
    ·rw[getD_set_ne _ hjk] at u;exact u
   refine wpOp_mono (λI w' h3=>⟨h3.2.1,ih _ I w' g (ready_mono hr (Ne.symm hji)) h3.1 (h3.2.1 D) ?_⟩) h2
   rw[Array.setIfInBounds_comm _ _ hji];exact h3.2.2
end
section
variable {P : Program} {l : List Oper} {Q : Exit -> Act -> World -> Prop} {md : Region.Mode} {S : World -> Prop} {z : Nat}
theorem zjZ {i:Nat}{e:Oper}{v:Value}{fuel:Nat}{b:List Bool}{a:Act}{w:World}(f:l[i]?=some e)
  (d:(Region.noSelect l.toArray && Region.free md l.toArray b.toArray i && (Region.ready md l.toArray b.toArray).contains i && (z == l.toArray.size))=true)
  (g:∀ c a w,Q (.panic c) (a.put e.dst v) w->Q (.panic c) a w) (k:YieldsIf P l.toArray S e v a) (j:S w)
  (h:QM P md l.toArray Q S z fuel (b.set i true).toArray (a.put e.dst v) w):QM P md l.toArray Q S z (fuel+1) b.toArray a w:=by
 rw[Bool.and_eq_true,Bool.and_eq_true,Bool.and_eq_true] at d;exact ziB (by simpa using f) (by simpa using d.2) (Region.noSelect_spec d.1.1.1) g _ _ a w (Region.free_spec (by simpa using f) d.1.1.2) (by simpa using d.1.2) k j (by simpa using h)
end
theorem tkN {P:Program}{l:List Oper}{Q:Exit->Act->World->Prop}{e:Region.Mode}{S:World->Prop}{z:Nat}(i:Nat){d:Oper}{v:Value}{fuel:Nat}{b:List Bool}{a:Act}{w:World}(j:l[i]?=some d)
  (k:(Region.noSelect l.toArray && Region.free e l.toArray b.toArray i && (Region.ready e l.toArray b.toArray).contains i && (z == l.toArray.size))=true)
  (f:∀ c a w,Q (.panic c) (a.put d.dst v) w->Q (.panic c) a w) (m:Region.wanted d (yielded l.toArray a.tmps)=true) (g:S w) (n:∀ w,S w->(execOp a.eval d).run P w=.ok (.value v) w)
  (h:QM P e l.toArray Q S z fuel (b.set i true).toArray (a.put d.dst v) w):QM P e l.toArray Q S z (fuel+1) b.toArray a w:=zjZ j k f (Or.inl ⟨m,n⟩) g h
end
section
open Go.RowKit
def nxt:List Oper->List Bool->Nat->Option (Nat × Oper)
 | o :: _,false :: _,i=>some (i,o)
 | _ :: l,true :: b,i=>nxt l b (i+1)
 | _,_,_=>none
theorem nxt_at:∀ (l:List Oper)(b:List Bool)(s i:Nat)(o:Oper),nxt l b s=some (i,o)->∃ j,i=s+j/\l[j]?=some o
 | o' :: l,false :: b,s,i,o,h=>by simp only[nxt,Option.some.injEq,Prod.mk.injEq] at h;obtain⟨rfl,rfl⟩:=h;exact⟨0,rfl,rfl⟩
 | o' :: l,true :: b,s,i,o,h=>by
  obtain⟨j,h1,h2⟩:=nxt_at l b (s+1) i o (by simpa only [nxt] using h)
  exact⟨j+1,by omega,by simpa using h2⟩
 | [],b,s,i,o,h=>by simp[nxt] at h
 | _ :: _,[],s,i,o,h=>by simp[nxt] at h
theorem nxt_get {l:List Oper}{b:List Bool}{k i:Nat}{o:Oper}(h:nxt (l.drop k) (b.drop k) k=some (i,o)):l[i]?=some o:=by
 obtain⟨j,rfl,h2⟩:=nxt_at _ _ _ _ _ h;rw[List.getElem?_drop] at h2;exact h2
section
variable {P : Program} {l : List Oper} {Q : Exit -> Act -> World -> Prop} {md : Region.Mode} {S : World -> Prop} {z : Nat}
theorem tFL (k:Nat){i:Nat}{d:Oper}{v:Value}{fuel:Nat}{b:List Bool}{a:Act}{w:World}(g:nxt (l.drop k) (b.drop k) k=some (i,d))
  (j:(Region.noSelect l.toArray && Region.free md l.toArray b.toArray i && (Region.ready md l.toArray b.toArray).contains i && (!(i == z) && zfc md l.toArray z && zoJ md l.toArray b.toArray && (z+1 == l.toArray.size)))=true)
  (e:∀ c a w,Q (.panic c) (a.put d.dst v) w->Q (.panic c) a w) (m:Region.wanted d (yielded l.toArray a.tmps)=true) (f:S w) (n:∀ w,S w->(execOp a.eval d).run P w=.ok (.value v) w)
  (h:QM P md l.toArray Q S z fuel (b.set i true).toArray (a.put d.dst v) w):QM P md l.toArray Q S z (fuel+1) b.toArray a w:=zjX (nxt_get g) j e (Or.inl ⟨m,n⟩) f h
theorem tFN (k:Nat){i:Nat}{d:Oper}{v:Value}{fuel:Nat}{b:List Bool}{a:Act}{w:World}(g:nxt (l.drop k) (b.drop k) k=some (i,d))
  (j:(Region.noSelect l.toArray && Region.free md l.toArray b.toArray i && (Region.ready md l.toArray b.toArray).contains i && (z == l.toArray.size))=true)
  (e:∀ c a w,Q (.panic c) (a.put d.dst v) w->Q (.panic c) a w) (m:Region.wanted d (yielded l.toArray a.tmps)=true) (f:S w) (n:∀ w,S w->(execOp a.eval d).run P w=.ok (.value v) w)
  (h:QM P md l.toArray Q S z fuel (b.set i true).toArray (a.put d.dst v) w):QM P md l.toArray Q S z (fuel+1) b.toArray a w:=zjZ (nxt_get g) j e (Or.inl ⟨m,n⟩) f h
end
end
section
open Go.RowKit
structure NBk (w u:World)(g f:Nat)(y:OpD)(d:Option Addr)(e:Nat)(h:Option (Option Addr × Nat))(i:Option Nat):Prop where
 bel:Below w.heap.size w u
 rl:w.heap.size<=f
 ban:Zq w
 far:Zu w
 pok:QU ⟨y.pe,y.len,y.hei,y.cl,y.all,y.be⟩ y.lgn
 legs:zT w d y.lgn y.lg
 box:u.heap[g]?=some (.cells (y,d,e) 47 (0,0))
 res:u.heap[f]?=some (.cells #[(),(),False,True,(),(),(),(),.bool false,(),(),(),()] 150 (0,0))
 h1:∀ a c,h=some (a,c)->u.ownsRow w.heap.size 3 1 (a,y.lgn,c) y.lgn (zS y.lg y.lgn)
 h2:∀ b,i=some b->w.heap.size<=b/\b≠f/\u.heap[b]?=some (.cells #[(),(),False,True,(),(),(),(),.bool false,(),(),(),()] 150 (0,0))
section
variable {w u : World} {ob rb : Nat} {y : OpD} {alg : Option Addr} {clg : Nat} {p1 : Option (Option Addr × Nat)} {p2 : Option Nat}
theorem NBk.s (h:NBk w u ob rb y alg clg p1 p2):u.cell? (ob,0)=some (int i64 y.kind)/\u.cell? (ob,1)=some (.string y.own)/\u.cell? (ob,2)=some (int i64 y.name)/\u.cell? (ob,3)=some (alg,y.lgn,clg)/\u.cell? (ob,4)=some (int i64 y.pe)/\u.cell? (ob,5)=some (int i64 y.len)/\u.cell? (ob,6)=some (int i64 y.hei)/\u.cell? (ob,7)=some (int i64 y.cl)/\u.cell? (ob,8)=some (.bool y.all)/\u.cell? (ob,9)=some (int i64 y.be)/\u.cell? (ob,10)=some (int i64 y.unt)/\u.cell? (ob,11)=some (int i64 y.now):=⟨za h.box 0 _ rfl,za h.box 1 _ rfl,za h.box 2 _ rfl,za h.box 3 _ rfl,za h.box 4 _ rfl,za h.box 5 _ rfl,za h.box 6 _ rfl,za h.box 7 _ rfl,za h.box 8 _ rfl,za h.box 9 _ rfl,za h.box 10 _ rfl,za h.box 11 _ rfl⟩
theorem NBk.below {f:World}(h:NBk w u ob rb y alg clg p1 p2)(d:Below u.heap.size u f):NBk w f ob rb y alg clg p1 p2:=⟨ze h.bel d,h.rl,h.ban,h.far,h.pok,h.legs,zb h.box d,zb h.res d,λa c e=>zo d (h.h1 a c e),λb e=>⟨(h.h2 b e).1,(h.h2 b e).2.1,zb (h.h2 b e).2.2 d⟩⟩
theorem NBk.c1 (h:NBk w u ob rb y alg clg none p2):Calls prog 212 #[(alg,y.lgn,clg)] u λe f=>∃ a c,e=.returned (a,y.lgn,c)/\Hid (NBk w f ob rb y alg clg (some (a,c)) p2):=by
 have h1:=h.pok.2;have hn:1<=y.lgn/\y.lgn<=3:=by unfold In at h1;omega
 obtain⟨b,o,g,_⟩:=h.legs 0 (by omega)
 subst g;have j:=h.legs;refine(zgp (b,o) y.lgn clg y.lg u (by omega) (j.below h.bel)).mono ?_
 rintro e f ⟨⟨v,rfl,d⟩,i⟩;obtain⟨a,c,rfl,_⟩:=zp d;have k:=h.below i;exact⟨a,c,rfl,k.bel,k.rl,k.ban,k.far,k.pok,k.legs,k.box,k.res,λa' c' e=>(by cases e;exact zu d h.bel.size),k.h2⟩
theorem NBk.c2 (h:NBk w u ob rb y alg clg p1 p2):Calls prog 202 #[.agg (y,alg,clg)] u λe c=>e=.returned (zE ⟨y.pe,y.len,y.hei,y.cl,y.all,y.be⟩ y.lgn)/\Hid (NBk w c ob rb y alg clg p1 p2) :=
 (zcG y alg clg u (h.ban.below h.bel) (h.far.below h.bel) h.pok).mono λ_ _ ⟨a,b⟩=>⟨a,h.below b⟩
theorem NBk.al (h:NBk w u ob rb y alg clg p1 none):NBk w (u.alloc (.cells #[(),(),False,True,(),(),(),(),.bool false,(),(),(),()] 150)) ob rb y alg clg p1 (some u.heap.size):=by
 have k:=h.below (zk (Ji _ u) (.cells #[(),(),False,True,(),(),(),(),.bool false,(),(),(),()] 150));exact⟨k.bel,k.rl,k.ban,k.far,k.pok,k.legs,k.box,k.res,k.h1,λb e=>(by cases e;exact⟨h.bel.size,λe=>by have:=zM h.res;omega,Jb u _⟩)⟩
end
theorem zhA (nm f:Int)(y:OpD)(l:Option Addr)(n:Nat)(w:World)(hB:Zq w)(o:Zu w)(hp:QU ⟨y.pe,y.len,y.hei,y.cl,y.all,y.be⟩ y.lgn)(O:zT w l y.lgn y.lg)(st:Int)(T:(y.kind=2->st=1)/\(y.kind≠2->st=2)) :
  Calls prog 203 #[nm,f,.agg (y,l,n)] w λe w'=>(∃ la j,e=.returned (.agg #[nm,f,y.own,.slice la y.lgn j,y.pe,y.len,y.hei,y.cl,y.all,y.be,st,y.unt,(zE ⟨y.pe,y.len,y.hei,y.cl,y.all,y.be⟩ y.lgn)])/\w'.ownsRow w.heap.size 3 1 (.slice la y.lgn j) y.lgn (zS y.lg y.lgn))/\Below w.heap.size w w':=by
 have c:Hid (NBk w ((w.alloc (.cells (y,l,n) 47)).alloc (.cells #[(),(),False,True,(),(),(),(),.bool false,(),(),(),()] 150)).drew w.heap.size (w.heap.size+1) y l n none none) :=
  ⟨(zk (zk bZ _) _).drew,by omega,hB,o,hp,O,zK (zd (Jb w _) _),zK (by simpa using Jb (w.alloc (.cells (y,l,n) 47)) _),λ_ _ e=>(by cases e),λ_ e=>(by cases e)⟩
 have S:=hI T;clear hB o hp O T;go_enter func203,ntmps203;go_upto_region 1 with fail;go_cut [7] (λs7 U=>∃ nb la j,s7=.pointer (some ⟨nb,0,none⟩)/\w.heap.size<=nb/\nb≠w.heap.size+1/\nb≠w.heap.size/\Hid (U.heap[nb]?=some (.cells #[nm,f,y.own,.slice la y.lgn j,y.pe,y.len,y.hei,y.cl,y.all,y.be,int i64 2,y.unt,(zE ⟨y.pe,y.len,y.hei,y.cl,y.all,y.be⟩ y.lgn)] 150 (0,0)))/\Hid (U.heap[w.heap.size]?=some (.cells (y,l,n) 47 (0,0)))/\Hid (U.heap[w.heap.size+1]?=some (.cells #[int i64 0,int i64 0,.string ⟨#[]⟩,.slice none 0 0,int i64 0,int i64 0,int i64 0,int i64 0,.bool false,int i64 0,int i64 0,int i64 0,int i64 0] 150 (0,0)))/\Hid (U.ownsRow w.heap.size 3 1 (.slice la y.lgn j) y.lgn (zS y.lg y.lgn))/\Below w.heap.size w U)
 case first =>
  refine qg 16 16 (λu=>u.cell? (w.heap.size,0)=some (int i64 y.kind)/\u.cell? (w.heap.size,1)=some (.string y.own)/\u.cell? (w.heap.size,2)=some (int i64 y.name)/\u.cell? (w.heap.size,3)=some (l,y.lgn,n)/\u.cell? (w.heap.size,4)=some (int i64 y.pe)/\u.cell? (w.heap.size,5)=some (int i64 y.len)/\u.cell? (w.heap.size,6)=some (int i64 y.hei)/\u.cell? (w.heap.size,7)=some (int i64 y.cl)/\u.cell? (w.heap.size,8)=some (.bool y.all)/\u.cell? (w.heap.size,9)=some (int i64 y.be)/\u.cell? (w.heap.size,10)=some (int i64 y.unt)/\u.cell? (w.heap.size,11)=some (int i64 y.now)) rfl (by kernel_rfl) c.s (λq=>?_)
  simp only[List.replicate_succ,List.replicate_zero];generalize ((w.alloc (.cells (y,l,n) 47)).alloc (.cells #[(),(),False,True,(),(),(),(),.bool false,(),(),(),()] 150)).drew=u0 at c q ⊢
  iterate 6 (refine tFN 0 (v:=?_) rfl (by kernel_rfl) (λ_ _ _ h=>h) rfl (by assumption) ?_ ?_;rotate_left;(focus(intro w' h;(try dsimp only at h);go_simp;try with_reducible rfl));simp only[Act.put,sB,sZ,sS])
  iterate 5 (refine tFN 7 (v:=?_) rfl (by kernel_rfl) (λ_ _ _ h=>h) rfl (by assumption) ?_ ?_;rotate_left;(focus(intro w' h;(try dsimp only at h);go_simp;try with_reducible rfl));simp only[Act.put,sB,sZ,sS])
  refine zj (rs:=[6,14]) (by kernel_rfl) (by simp) ?_
  refine zc.consL rfl (λK i=>?_) (zc.consL rfl (λK i=>?_) zc.nil)
  focus
   go_simp;go_at_call 212;refine Jm (c.c1) ?_;rintro e u1 ⟨la,j,rfl,c⟩;dsimp only;refine i _ _ c.s (λq=>?_)
   clear i K;simp only[sZ,sS];refine zj (rs:=[12,14]) (by kernel_rfl) (by simp) ?_
   refine zc.consL rfl (λK i=>?_) (zc.consL rfl (λK i=>?_) zc.nil)
   focus
    go_simp;go_at_call 202;refine Jm (c.c2) ?_;rintro e u2 ⟨rfl,c⟩;dsimp only;refine i _ _ c.s (λq=>?_)
    clear i K;simp only[sZ,sS]
    (refine tFN 13 (v:=?_) rfl (by kernel_rfl) (λ_ _ _ h=>h) rfl (by assumption) ?_ ?_;rotate_left;(focus(intro w' h;(try dsimp only at h);go_simp;try with_reducible rfl));simp only[Act.put,sB,sZ,sS])
    refine zj (rs:=[14]) (by kernel_rfl) (by simp) ?_
    refine zc.consL rfl (λK i=>?_) zc.nil
    focus
     go_simp;replace c:Hid _:=c.al;refine i _ _ c.s (λq=>?_)
     clear i K;simp only[sZ,sS];generalize u2.alloc (.cells #[(),(),False,True,(),(),(),(),.bool false,(),(),(),()] 150)=u3 at c q ⊢;generalize u2.heap.size=nb at c ⊢
   rotate_left 1
   focus
    go_simp;replace c:Hid _:=c.al;refine i _ _ c.s (λq=>?_)
    clear i K;simp only[sZ,sS];generalize u1.alloc (.cells #[(),(),False,True,(),(),(),(),.bool false,(),(),(),()] 150)=u2 at c q ⊢;generalize u1.heap.size=nb at c ⊢;refine zj (rs:=[12]) (by kernel_rfl) (by simp) ?_
    refine zc.consL rfl (λK i=>?_) zc.nil
    focus
     go_simp;go_at_call 202;refine Jm (c.c2) ?_;rintro e u3 ⟨rfl,c⟩;dsimp only;refine i _ _ c.s (λq=>?_)
     clear i K;simp only[sZ,sS]
     (refine tFN 13 (v:=?_) rfl (by kernel_rfl) (λ_ _ _ h=>h) rfl (by assumption) ?_ ?_;rotate_left;(focus(intro w' h;(try dsimp only at h);go_simp;try with_reducible rfl));simp only[Act.put,sB,sZ,sS])
  rotate_left 2
  focus
   go_simp;replace c:Hid _:=c.al;refine i _ _ c.s (λq=>?_)
   clear i K;simp only[sZ,sS];generalize u0.alloc (.cells #[(),(),False,True,(),(),(),(),.bool false,(),(),(),()] 150)=u1 at c q ⊢;generalize u0.heap.size=nb at c ⊢;refine zj (rs:=[6]) (by kernel_rfl) (by simp) ?_
   refine zc.consL rfl (λK i=>?_) zc.nil
   focus
    go_simp;go_at_call 212;refine Jm (c.c1) ?_;rintro e u2 ⟨la,j,rfl,c⟩;dsimp only;refine i _ _ c.s (λq=>?_)
    clear i K;simp only[sZ,sS];refine zj (rs:=[12]) (by kernel_rfl) (by simp) ?_
    refine zc.consL rfl (λK i=>?_) zc.nil
    focus
     go_simp;go_at_call 202;refine Jm (c.c2) ?_;rintro e u3 ⟨rfl,c⟩;dsimp only;refine i _ _ c.s (λq=>?_)
     clear i K;simp only[sZ,sS]
     (refine tFN 13 (v:=?_) rfl (by kernel_rfl) (λ_ _ _ h=>h) rfl (by assumption) ?_ ?_;rotate_left;(focus(intro w' h;(try dsimp only at h);go_simp;try with_reducible rfl));simp only[Act.put,sB,sZ,sS])
  all_goals
   obtain⟨z,A,V⟩:=c.h2 nb rfl;have B:Hid _:=V;have L:nb≠w.heap.size:=λe=>by have h:=c.box;rw[← e,V] at h;simp at h
   have D:Hid _:=zdl u3 nb nm f y.own (la,y.lgn,j) y.pe y.len y.hei y.cl y.all y.be (int i64 2) y.unt (zE ⟨y.pe,y.len,y.hei,y.cl,y.all,y.be⟩ y.lgn);have R:Hid _:=zev V nm f y.own (la,y.lgn,j) y.pe y.len y.hei y.cl y.all y.be (int i64 2) y.unt (zE ⟨y.pe,y.len,y.hei,y.cl,y.all,y.be⟩ y.lgn);have Y:Hid _:=zew c.bel z nm f y.own (la,y.lgn,j) y.pe y.len y.hei y.cl y.all y.be (int i64 2) y.unt (zE ⟨y.pe,y.len,y.hei,y.cl,y.all,y.be⟩ y.lgn);obtain⟨q0,q1,q2,q3,q4,q5,q6,q7,q8,q9,N,a3,a4⟩:=zeX B;obtain⟨g0,g1,g2,g3,g4,g5,g6,g7,g8,g9,G,a1,a2⟩:=fe13 B;refine zj (rs:=[15]) (by kernel_rfl) (by simp) ?_
   refine zc.consL rfl (λK i=>?_) zc.nil
   go_simp;have d:Hid _:=D.blk c.box (show ¬ w.heap.size=nb from λe=>L e.symm)
   have X:Hid _:=D.blk c.res (show ¬ w.heap.size+1=nb from λe=>A e.symm)
   have a0:Hid _:=D.own (c.h1 la j rfl) (λg h1 h2=>zQ (c.h1 la j rfl) B (by decide) g h1 h2)
   refine i _ _ ⟨za d 0 _ rfl,za d 1 _ rfl,za d 2 _ rfl,za d 3 _ rfl,za d 4 _ rfl,za d 5 _ rfl,za d 6 _ rfl,za d 7 _ rfl,za d 8 _ rfl,za d 9 _ rfl,za d 10 _ rfl,za d 11 _ rfl⟩ (λq=>?_)
   clear i K q0 g0 q1 g1 q2 g2 q3 g3 q4 g4 q5 g5 q6 g6 q7 g7 q8 g8 q9 g9 N G a3 a1 a4 a2 V;simp only[sZ,sS];refine zX (by kernel_rfl) ?_ _
   go_wp2;go_meet;exact⟨nb,la,j,rfl,z,A,L,R,d,X,a0,Y⟩
 case rest =>
 clear c;obtain⟨nb,la,j,rfl,z,A,L,E,HO,c,Q,x⟩:=hcut;have y0:=za HO 0 _ rfl
 by_cases k2:y.kind=2
 ·have d2:(y.kind == 2)=true:=by simpa using k2
  have C:=hI (S.1 k2);clear k2;have N:=za E 10 _ rfl;have G:=zg E 10;have I:zx wc (wc.setCell (nb,10) (int i64 1)) (λb=>b=nb):=(zx.refl wc (λb=>b=nb)).set (a:=(nb,10)) rfl _
  have s:(wc.setCell (nb,10) (int i64 1)).heap[nb]?=some (.cells #[nm,f,y.own,(la,y.lgn,j),y.pe,y.len,y.hei,y.cl,y.all,y.be,int i64 1,y.unt,(zE ⟨y.pe,y.len,y.hei,y.cl,y.all,y.be⟩ y.lgn)] 150 (0,0)):=by simpa using zm E 10 (int i64 1)
  have m:=I.blk c (show ¬ w.heap.size+1=nb from λe=>A e.symm)
  have r:=I.own Q (λg h1 h2=>zQ Q E (by decide) g h1 h2)
  have t:=x.setCell (p:=(nb,10)) z (int i64 1);go_upto_region 4 with fail;generalize wc.setCell (nb,10) (int i64 1)=W at s m r t ⊢;clear N G I E c Q x HO y0;refine wp_region_lit ?_;refine wpList_load_row rfl _ _ rfl nb rfl _ _ (0,0) _ s underlying150 rfl Tryz.sizeBk ?_;refine wpList_store_row rfl _ _ _ rfl (w.heap.size+1) _ rfl rfl _ _ m Tryz.sizeBk rfl (by simp[Value.oneCell']) ?_
  obtain⟨F,o⟩:∃ F,F=W.setRow (w.heap.size+1) #[nm,f,y.own,(la,y.lgn,j),y.pe,y.len,y.hei,y.cl,y.all,y.be,int i64 1,y.unt,(zE ⟨y.pe,y.len,y.hei,y.cl,y.all,y.be⟩ y.lgn)]:=⟨_,rfl⟩;have RF:F.heap[w.heap.size+1]?=some (.cells #[nm,f,y.own,(la,y.lgn,j),y.pe,y.len,y.hei,y.cl,y.all,y.be,int i64 1,y.unt,(zE ⟨y.pe,y.len,y.hei,y.cl,y.all,y.be⟩ y.lgn)] 150 (0,0)):=by rw[o];exact setRow_heap _ _ _ _ _ _ m
  have Z:Below w.heap.size w F:=by rw[o];exact below_setRow t (by omega) _
  have M:F.ownsRow w.heap.size 3 1 (la,y.lgn,j) y.lgn (zS y.lg y.lgn):=by
   have H:zx W F (λb=>b=w.heap.size+1):=by rw[o];exact⟨rfl,rfl,rfl,(below_setRow (Ji 0 W) (Jq _) _).size,λk _ J=>setRow_other _ _ _ _ J⟩
   exact H.own r (λg h1 h2=>zQ r m (by decide) g h1 h2)
  rw[← o];clear o;have O:=run_loadVar_row (P:=prog) F (w.heap.size+1) 150 150 _ (0,0) _ RF underlying150 rfl Tryz.sizeBk;go_wp2;exact Jj (v:=.agg #[nm,f,y.own,(la,y.lgn,j),y.pe,y.len,y.hei,y.cl,y.all,y.be,int i64 1,y.unt,(zE ⟨y.pe,y.len,y.hei,y.cl,y.all,y.be⟩ y.lgn)]) (Qq results203 rfl O) rfl ⟨⟨la,j,by rw[C.out],M⟩,Z⟩
 ·have d2:(y.kind == 2)=false:=by simpa using k2
  have C:=hI (S.2 k2);clear k2;have s:=E;have m:=c;have r:=Q;have t:=x;go_upto_region 4 with fail;clear E c Q x HO y0;refine wp_region_lit ?_;refine wpList_load_row rfl _ _ rfl nb rfl _ _ (0,0) _ s underlying150 rfl Tryz.sizeBk ?_;refine wpList_store_row rfl _ _ _ rfl (w.heap.size+1) _ rfl rfl _ _ m Tryz.sizeBk rfl (by simp[Value.oneCell']) ?_
  obtain⟨F,o⟩:∃ F,F=wc.setRow (w.heap.size+1) #[nm,f,y.own,(la,y.lgn,j),y.pe,y.len,y.hei,y.cl,y.all,y.be,int i64 2,y.unt,(zE ⟨y.pe,y.len,y.hei,y.cl,y.all,y.be⟩ y.lgn)]:=⟨_,rfl⟩;have RF:F.heap[w.heap.size+1]?=some (.cells #[nm,f,y.own,(la,y.lgn,j),y.pe,y.len,y.hei,y.cl,y.all,y.be,int i64 2,y.unt,(zE ⟨y.pe,y.len,y.hei,y.cl,y.all,y.be⟩ y.lgn)] 150 (0,0)):=by rw[o];exact setRow_heap _ _ _ _ _ _ m
  have Z:Below w.heap.size w F:=by rw[o];exact below_setRow t (by omega) _
  have M:F.ownsRow w.heap.size 3 1 (la,y.lgn,j) y.lgn (zS y.lg y.lgn):=by
   have H:zx wc F (λb=>b=w.heap.size+1):=by rw[o];exact⟨rfl,rfl,rfl,(below_setRow (Ji 0 wc) (Jq _) _).size,λk _ J=>setRow_other _ _ _ _ J⟩
   exact H.own r (λg h1 h2=>zQ r m (by decide) g h1 h2)
  rw[← o];clear o;have O:=run_loadVar_row (P:=prog) F (w.heap.size+1) 150 150 _ (0,0) _ RF underlying150 rfl Tryz.sizeBk;go_wp2;exact Jj (v:=.agg #[nm,f,y.own,(la,y.lgn,j),y.pe,y.len,y.hei,y.cl,y.all,y.be,int i64 2,y.unt,(zE ⟨y.pe,y.len,y.hei,y.cl,y.all,y.be⟩ y.lgn)]) (Qq results203 rfl O) rfl ⟨⟨la,j,by rw[C.out],M⟩,Z⟩
end
section
open Go.RowKit
variable{F:Nat->Int}{x:Int}{n:Nat}
def Has (F:Nat->Int)(n:Nat)(x:Int):Prop:=∃ j,j<n/\F j=x
def zaj (F:Nat->Int)(x:Int):Nat->Nat
 | 0=>0
 | n+1=>if zaj F x n<n then zaj F x n else if F n=x then n else n+1
theorem ixOf_le (F:Nat->Int)(x:Int)(n:Nat):zaj F x n<=n:=by
 induction n with
 | zero=>exact Jr _
 | succ n ih=>unfold zaj;split <;> (try split) <;> omega
theorem zgs (F:Nat->Int)(x:Int)(n:Nat):∀ j,j<zaj F x n->F j≠x:=by
 induction n with
 | zero=>intro j a;unfold zaj at a;omega
 | succ n ih =>
  intro j a;unfold zaj at a;have hl:=ixOf_le F x n
  by_cases h1:zaj F x n<n
  ·rw[Jf h1] at a;exact ih j a
  ·rw[Je h1] at a
   have he:zaj F x n=n:=by omega
   by_cases h2:F n=x
   ·rw[Jf h2] at a;exact ih j (by omega)
   ·rw[Je h2] at a
    by_cases e:j=n
    ·subst e;exact h2
    ·exact ih j (by omega)
theorem zdn (F:Nat->Int)(x:Int)(n:Nat)(h:zaj F x n<n):F (zaj F x n)=x:=by
 induction n with
 | zero=>omega
 | succ n ih =>
  unfold zaj at h ⊢
  by_cases h1:zaj F x n<n
  ·rw[Jf h1];exact ih h1
  ·rw[Je h1] at h ⊢
   by_cases h2:F n=x
   ·rw[Jf h2];exact h2
   ·rw[Je h2] at h;omega
theorem zfe {r:Nat}(hr:r<n)(b:F r=x)(a:∀ j,j<r->F j≠x):zaj F x n=r:=by
 have h1:=zgs F x n
 by_cases c:zaj F x n<r
 ·exact absurd (zdn F x n (by omega)) (a _ c)
 ·by_cases c2:r<zaj F x n
  ·exact absurd b (h1 r c2)
  ·omega
theorem zdo (F:Nat->Int)(n:Nat)(x:Int):Has F n x↔zaj F x n<n:=by
 constructor
 ·rintro⟨j,hj,e⟩
  by_cases c:zaj F x n<n
  ·exact c
  ·have:=ixOf_le F x n
   exact absurd e (zgs F x n j (by omega))
 ·intro h
  exact⟨_,h,zdn F x n h⟩
theorem zdp (h:∀ j,j<n->F j≠x):¬ Has F n x:=λ⟨j,hj,e⟩=>h j hj e
def Zv (F:Nat->Int)(x:Int)(n:Nat):Int:=if zaj F x n<n then (zaj F x n:Int) else -1
theorem QC (F:Nat->Int)(x:Int)(n:Nat):0<=Zv F x n↔Has F n x:=by
 rw[zdo];unfold Zv
 split <;> omega
theorem zbM (h:¬ Has F n x):Zv F x n=-1:=Je (λc=>h ((zdo F n x).2 c))
end
end Go.Proofs.YtmdnjgihooflfaaGreatDoor

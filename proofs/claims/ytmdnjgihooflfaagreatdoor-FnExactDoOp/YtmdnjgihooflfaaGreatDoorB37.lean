/-
  OWN TEXT: MarkT, MarkBk, MarkOff, MarkOpF, LMRow, LMRowE, KitAnswer.
-/
import Derived.Test.YtmdnjgihooflfaaGreatDoorRows
import Derived.Deep.RegionHeld3
import Derived.Test.YtmdnjgihooflfaaGreatDoorB36
import Derived.Test.YtmdnjgihooflfaaGreatDoorB21
namespace Go.Proofs.YtmdnjgihooflfaaGreatDoor
open Go.RowKit
open Go.Value (int)
open Go.IntKind (i64)
set_option maxHeartbeats 64000000
set_option maxRecDepth 100000
section
open Go.RowKit
structure QE (w:World)(base g N:Nat)(n m l c:Nat->Nat):Prop where
 ord:∀ i,i<N->g<l i/\l i<c i
 rise:∀ i j,i<j->j<N->c i<l j
 row:∃ f,w.ownsRow base 140 8 (.slice (some ⟨g,0,none⟩) N N) N ((List.range (N*8)).map f)/\∀ i,i<N->f (i*8+5)=ZY (l i) (n i)/\f (i*8+6)=ZY (c i) (m i)
 lanes:∀ i,i<N->∃ f,w.ownsRow base 223 2 (ZY (l i) (n i)) (n i) ((List.range (n i*2)).map f)
 cabins:∀ i,i<N->∃ f,w.ownsRow base 231 2 (ZY (c i) (m i)) (m i) ((List.range (m i*2)).map f)
theorem Q1 {b n g:Nat}(h:(ZY b n).ownBlock=some g):b=g:=by
 simpa only [ZY,Value.ownBlock,Option.some.injEq] using h
section
variable {w w' : World} {base g N : Nat} {n m l c : Nat -> Nat}
theorem QE.cell (h:QE w base g N n m l c)(j:Nat)(b:j<N*8):∃ v,w.cell? ⟨g,j,none⟩=some v:=by
 obtain⟨f,a,_⟩:=h.row;exact⟨_,zs a j b rfl⟩
theorem QE.ice (h:QE w base g N n m l c)(j:Nat):w.frozen? ⟨g,j,none⟩=false:=by
 obtain⟨f,a,_⟩:=h.row;exact a.frozenAt j
theorem QE.lane (h:QE w base g N n m l c){t:Nat}(d:t<N):w.cell? ⟨g,t*8+5,none⟩=some (.slice (some ⟨l t,0,none⟩) (n t) (n t)):=by
 obtain⟨f,b,a⟩:=h.row;rw[zs b (t*8+5) (by omega) rfl,(a t d).1];rfl
theorem QE.cabin (h:QE w base g N n m l c){t:Nat}(d:t<N):w.cell? ⟨g,t*8+6,none⟩=some (.slice (some ⟨c t,0,none⟩) (m t) (m t)):=by
 obtain⟨f,b,a⟩:=h.row;rw[zs b (t*8+6) (by omega) rfl,(a t d).2];rfl
theorem QE.below (h:QE w base g N n m l c)(b:Below w.heap.size w w'):QE w' base g N n m l c:=by
 refine⟨h.ord,h.rise,?_,fun i d=>?_,fun i d=>?_⟩
 ·obtain⟨f,a,e⟩:=h.row;exact⟨f,zo b a,e⟩
 ·obtain⟨f,a⟩:=h.lanes i d;exact⟨f,zo b a⟩
 ·obtain⟨f,a⟩:=h.cabins i d;exact⟨f,zo b a⟩
theorem QE.put (h:QE w base g N n m l c)(j:Nat)(h5:j % 8≠5)(h6:j % 8≠6)(u:Value):QE (w.setCell ⟨g,j,none⟩ u) base g N n m l c:=by
 have p:zx w (w.setCell ⟨g,j,none⟩ u) (fun b=>b=g):=(zx.refl w (fun b=>b=g)).set (a:=⟨g,j,none⟩) rfl u
 refine⟨h.ord,h.rise,?_,fun i d=>?_,fun i d=>?_⟩
 ·obtain⟨f,k,q⟩:=h.row
  refine⟨_,zL k j u,fun i d=>?_⟩
  rw[if_neg (by omega),if_neg (by omega)]
  exact q i d
 ·obtain⟨f,k⟩:=h.lanes i d
  exact⟨f,p.own k (fun b o e=>by have:=Q1 o;have:=h.ord i d;omega)⟩
 ·obtain⟨f,k⟩:=h.cabins i d
  exact⟨f,p.own k (fun b o e=>by have:=Q1 o;have:=h.ord i d;omega)⟩
theorem QE.apart (h:QE w base g N n m l c){i j:Nat}(d:i<N)(f:j<N):(i≠j->l i≠l j/\c i≠c j)/\l i≠c j:=by
 have a:=h.ord i d;have b:=h.ord j f
 rcases Nat.lt_trichotomy i j with e|e|e
 ·have:=h.rise i j e f;exact⟨fun _=>⟨by omega,by omega⟩,by omega⟩
 ·subst e;exact⟨fun x=>absurd rfl x,by omega⟩
 ·have:=h.rise j i e d;exact⟨fun _=>⟨by omega,by omega⟩,by omega⟩
theorem QE.keptL (h:QE w base g N n m l c){t:Nat}(o:t<N)(k:zx w w' (fun b=>b=l t))(q:∃ f,w'.ownsRow base 223 2 (ZY (l t) (n t)) (n t) ((List.range (n t*2)).map f)):QE w' base g N n m l c:=by
 refine⟨h.ord,h.rise,?_,fun i j=>?_,fun i j=>?_⟩
 ·obtain⟨f,d,r⟩:=h.row
  exact⟨f,k.own d (fun b a e=>by have:=Q1 a;have:=h.ord t o;omega),r⟩
 ·by_cases e:i=t
  ·subst e;exact q
  ·obtain⟨f,d⟩:=h.lanes i j
   exact⟨f,k.own d (fun b a p=>by have:=Q1 a;have:=((h.apart j o).1 e).1;omega)⟩
 ·obtain⟨f,d⟩:=h.cabins i j
  exact⟨f,k.own d (fun b a p=>by have:=Q1 a;have:=(h.apart o j).2;omega)⟩
theorem QE.keptC (h:QE w base g N n m l c){t:Nat}(o:t<N)(k:zx w w' (fun b=>b=c t))(q:∃ f,w'.ownsRow base 231 2 (ZY (c t) (m t)) (m t) ((List.range (m t*2)).map f)):QE w' base g N n m l c:=by
 refine⟨h.ord,h.rise,?_,fun i j=>?_,fun i j=>?_⟩
 ·obtain⟨f,d,r⟩:=h.row
  exact⟨f,k.own d (fun b a e=>by have:=Q1 a;have:=h.ord t o;omega),r⟩
 ·obtain⟨f,d⟩:=h.lanes i j
  exact⟨f,k.own d (fun b a p=>by have:=Q1 a;have:=(h.apart j o).2;omega)⟩
 ·by_cases e:i=t
  ·subst e;exact q
  ·obtain⟨f,d⟩:=h.cabins i j
   exact⟨f,k.own d (fun b a p=>by have:=Q1 a;have:=((h.apart j o).1 e).2;omega)⟩
end
theorem zak.mark {w:World}{lo g N:Nat}{S:Nat->Zj}{l c:Nat->Nat}(r:zak w 140 223 231 N lo g N S l c)(hN:N<=1048576)(d:∀ i,i<N->(S i).la.n<=1048576)(b:∀ i,i<N->(S i).ca.n<=1048576) :
  QE w lo g N (fun i=>(S i).la.n) (fun i=>(S i).ca.n) l c:=by
 have e:=r.lo;refine⟨fun i a=>⟨(r.lanes i a).1,(r.cabins i a).1⟩,r.rise,⟨_,Zz r.row r.lo (by unfold maxLen;omega),fun i a=>?_⟩,fun i a=>?_,fun i a=>?_⟩
 ·rw[Q2,Q4,qr _ _ a,qr _ _ a];exact⟨rfl,rfl⟩
 ·exact⟨_,Zz (r.lanes i a).2 (by have:=(r.lanes i a).1;omega) (by have:=d i a;unfold maxLen;omega)⟩
 ·exact⟨_,Zz (r.cabins i a).2 (by have:=(r.lanes i a).1;have:=(r.cabins i a).1;omega) (by have:=b i a;unfold maxLen;omega)⟩
theorem zfY (g N B base k0:Nat)(n m l c:Nat->Nat)(w:World)(hN:N<=1048576)(a2:k0<=1048576)(hn:∀ i,i<N->n i<=1048576)(hm:∀ i,i<N->m i<=1048576)(x:g<B)(Y:∀ i,i<N->c i<B)(ho:QE w base g N n m l c) :
  Calls Tryz.prog 62 #[.slice (some ⟨g,0,none⟩) N N,int i64 k0] w fun e w'=>(∃ k:Nat,k<=10000000000000/\e=.returned (int i64 k))/\zx w w' (fun b=>g<=b/\b<B):=by
 have HN:Hid (∀ i,i<N->n i<=1048576/\m i<=1048576/\c i<B):=fun i V=>⟨hn i V,hm i V,Y i V⟩
 clear hn hm Y;go_enter Tryz.func62,Tryz.ntmps62;go_wp2;go_loopw [1,5] (fun q i wr=>∃ t k:Nat,t<=N/\i=int i64 t/\q=int i64 k/\k<=1048576+t*4194310/\QE wr base g N n m l c/\zx w wr (fun b=>g<=b/\b<B)) (fun _ i _=>N - (intOf i).toNat)
 case atStart=>exact⟨0,k0,Nat.zero_le _,rfl,rfl,by omega,ho,zx.refl _ _⟩
 case round =>
  obtain⟨t,k,ht,rfl,rfl,a3,y,W⟩:=hrel
  by_cases hlt:t<N
  ·have sN:=HN.out t hlt
   have oN:=y.ord t hlt;obtain⟨v0,I⟩:=y.cell (t*8) (by omega)
   have Q:=y.ice (t*8);go_wp2_with fail;refine(zdD _ _ (by omega) (by omega)).mono ?_
   rintro e w2 ⟨⟨s,rfl⟩,p⟩;have f:=(y.put (t*8) (by omega) (by omega) (int i64 k)).below p
   have z:=(W.set (a:=⟨g,t*8,none⟩) ⟨Nat.le_refl g,x⟩ (int i64 k)).trans (zx.of_below p);clear y W I Q p;obtain⟨v1,J⟩:=f.cell (t*8+1) (by omega)
   have R:=f.ice (t*8+1);go_wp2_with fail;refine(zdD _ _ (by omega) (by omega)).mono ?_
   rintro e w3 ⟨⟨s',rfl⟩,r⟩;have d:=(f.put (t*8+1) (by omega) (by omega) (.string s)).below r
   have A:=(z.set (a:=⟨g,t*8+1,none⟩) ⟨Nat.le_refl g,x⟩ (.string s)).trans (zx.of_below r);clear f z J R r;have j:=((d.put (t*8+2) (by omega) (by omega) (.string s')).put (t*8+3) (by omega) (by omega) (int i64 (k+1+1+1))).put (t*8+4) (by omega) (by omega) (int i64 (k+1+1+1+1))
   have C:=((A.set (a:=⟨g,t*8+2,none⟩) ⟨Nat.le_refl g,x⟩ (.string s')).set (a:=⟨g,t*8+3,none⟩) ⟨Nat.le_refl g,x⟩ (int i64 (k+1+1+1))).set (a:=⟨g,t*8+4,none⟩) ⟨Nat.le_refl g,x⟩ (int i64 (k+1+1+1+1));obtain⟨v2,K⟩:=d.cell (t*8+2) (by omega)
   obtain⟨v3,L⟩:=d.cell (t*8+3) (by omega)
   obtain⟨v4,M⟩:=d.cell (t*8+4) (by omega)
   have O:=d.lane hlt;have S:=d.ice (t*8+2);have T:=d.ice (t*8+3);have U:=d.ice (t*8+4);go_wp2_with fail;obtain⟨F,Z⟩:=j.lanes t hlt;refine(zjx (l t) (n t) base F _ _ sN.1 (by omega) (by omega) Z).mono ?_
   rintro e w5 ⟨rfl,E,u⟩;have h:=j.keptL hlt u E;have D:=C.trans (u.mono (fun b e=>⟨by omega,by omega⟩))
   clear d A j C Z E u K L M O S T U;have P:=h.cabin hlt;obtain⟨G,hG⟩:=h.cabins t hlt;go_wp2_with fail;refine(zhI (c t) (m t) base G _ _ sN.2.1 (by omega) (by omega) hG).mono ?_
   rintro e w6 ⟨rfl,H,v⟩;have o:=h.keptC hlt v H;have X:=D.trans (v.mono (fun b e=>⟨by omega,by omega⟩))
   clear h D hG H v P;obtain⟨v7,a0⟩:=o.cell (t*8+7) (by omega)
   have a1:=o.ice (t*8+7);go_wp2;go_roundw
   case rel=>exact⟨t+1,k+5+2*n t+2*m t+1,by omega,by go_num,by congr 1,by omega,o.put (t*8+7) (by omega) (by omega) _,X.set (a:=⟨g,t*8+7,none⟩) ⟨Nat.le_refl g,x⟩ _⟩
   case measure=>simp[intOf];omega
  ·obtain rfl:t=N:=by omega
   go_wp2;go_ret;exact⟨⟨k,by omega,rfl⟩,W⟩
end
section
open Go.RowKit
structure zdG (w:World)(base g N:Nat)(n l:Nat->Nat):Prop where
 ord:∀ i,i<N->g<l i
 row:∃ f,w.ownsRow base 150 13 (.slice (some ⟨g,0,none⟩) N N) N ((List.range (N*13)).map f)/\∀ i,i<N->f (i*13+3)=ZY (l i) (n i)
 legs:∀ i,i<N->zij w base (l i) (n i)
section
variable {w w' : World} {base g N : Nat} {n l : Nat -> Nat}
theorem zdG.cell (h:zdG w base g N n l)(j:Nat)(b:j<N*13):∃ v,w.cell? ⟨g,j,none⟩=some v:=by
 obtain⟨f,a,_⟩:=h.row;exact⟨_,zs a j b rfl⟩
theorem zdG.ice (h:zdG w base g N n l)(j:Nat):w.frozen? ⟨g,j,none⟩=false:=by
 obtain⟨f,a,_⟩:=h.row;exact a.frozenAt j
theorem zdG.leg (h:zdG w base g N n l){t:Nat}(c:t<N):w.cell? ⟨g,t*13+3,none⟩=some (.slice (some ⟨l t,0,none⟩) (n t) (n t)):=by
 obtain⟨f,b,a⟩:=h.row;rw[zs b (t*13+3) (by omega) rfl,a t c];rfl
theorem zdG.below (h:zdG w base g N n l)(a:Below w.heap.size w w'):zdG w' base g N n l:=by
 refine⟨h.ord,?_,fun i d=>?_⟩
 ·obtain⟨f,c,b⟩:=h.row;exact⟨f,zo a c,b⟩
 ·exact(h.legs i d).kept (zx.of_below (S:=fun _=>False) a) (fun h=>h)
theorem zdG.put (h:zdG w base g N n l)(j:Nat)(h5:j % 13≠3)(u:Value):zdG (w.setCell ⟨g,j,none⟩ u) base g N n l:=by
 have k:zx w (w.setCell ⟨g,j,none⟩ u) (fun b=>b=g):=(zx.refl w (fun b=>b=g)).set (a:=⟨g,j,none⟩) rfl u
 refine⟨h.ord,?_,fun i c=>?_⟩
 ·obtain⟨f,d,m⟩:=h.row
  refine⟨_,zL d j u,fun i c=>?_⟩
  rw[if_neg (by omega)]
  exact m i c
 ·exact(h.legs i c).kept k (fun e=>by have:=h.ord i c;omega)
theorem zdG.mark (h:zdG w base g N n l){t:Nat}(c:t<N)(a:zx w w' (fun b=>b=l t))(m:zij w' base (l t) (n t)):zdG w' base g N n l:=by
 refine⟨h.ord,?_,fun i k=>?_⟩
 ·obtain⟨f,j,o⟩:=h.row
  exact⟨f,a.own j (fun b d e=>by simp only[Value.ownBlock,Option.some.injEq] at d;have:=h.ord t c;omega),o⟩
 ·exact(h.legs i k).after (h.legs t c) a (by omega) (fun _=>rfl) (fun _ e=>by rw[e];exact m)
end
theorem zfZ (g N lo p k0:Nat)(S:Nat->ql)(C:Nat->List Value)(w:World)(hN:N<=1048576)(b4:k0<=30000000000000)(K:Z2 N S 1048576)(m:zao w N lo p g N S C) :
  Calls Tryz.prog 64 #[.slice (some ⟨g,0,none⟩) N N,int i64 k0] w fun e w'=>(∃ k:Nat,k<=40000000000000/\e=.returned (int i64 k))/\zx w w' (fun b=>lo<=b/\b<p):=by
 have x:∀ i,i<N->∃ q:Nat,(g<q/\q<p)/\(C i).getD 3 (.bool false)=ZY q (S i).lgn/\zij w lo q (S i).lgn:=by
  intro i hi';obtain⟨a,e,y⟩:=m.each i hi';have sh:=K i hi';have Y:=m.glo;unfold ql.Short at sh;exact⟨a,⟨Nat.lt_of_succ_le y.1,y.2.1⟩,by rw[e];rfl,⟨_,⟨_,rfl⟩,by have:=Zz (size:=1) (n:=(S i).lgn) (by rw[Nat.mul_one];exact y.2.2) (Nat.le_trans (Nat.le_succ_of_le Y) y.1) (by unfold maxLen;omega);rw[Nat.mul_one] at this;exact this⟩⟩
 obtain⟨l,v⟩:=Go.Deep.choose_lt x;have z:zdG w lo g N (fun i=>(S i).lgn) l:=by
  refine⟨fun i hi'=>(v i hi').1.1,⟨_,Zz m.row m.glo (by unfold maxLen;omega),fun i hi'=>?_⟩,fun i hi'=>(v i hi').2.2⟩
  rw[zC 13 _ i 3 (by omega),qr _ _ hi',(v i hi').2.1]
 have X:Hid (∀ i,i<N->(S i).lgn<=1048576/\g<l i/\l i<p):=fun i hi'=>⟨(K i hi').2,(v i hi').1⟩
 have b3:=m.glo;have d:=m.ghi;clear K m x v;go_enter Tryz.func64,Tryz.ntmps64;go_wp2;go_loopw [1,5] (fun q i wr=>∃ t k:Nat,t<=N/\i=int i64 t/\q=int i64 k/\k<=30000000000000+t*1048600/\zdG wr lo g N (fun i=>(S i).lgn) l/\zx w wr (fun b=>g<=b/\b<p)) (fun _ i _=>N - (intOf i).toNat)
 case atStart=>exact⟨0,k0,Nat.zero_le _,rfl,rfl,by omega,z,zx.refl _ _⟩
 case round =>
  obtain⟨t,k,ht,rfl,rfl,b5,o,I⟩:=hrel
  by_cases hlt:t<N
  ·obtain⟨n1,b1,b2⟩:=X.out t hlt
   obtain⟨v0,A⟩:=o.cell (t*13) (by omega)
   obtain⟨v1,B⟩:=o.cell (t*13+1) (by omega)
   have F:=o.ice (t*13);have G:=o.ice (t*13+1);go_wp2_with fail;refine(zdD _ _ (by omega) (by omega)).mono ?_
   rintro e W ⟨⟨s,rfl⟩,j⟩;have f:=((o.put (t*13) (by omega) (int i64 k)).put (t*13+1) (by omega) (int i64 (k+1))).below j
   have r:=((I.set (a:=⟨g,t*13,none⟩) ⟨Nat.le_refl g,d⟩ (int i64 k)).set (a:=⟨g,t*13+1,none⟩) ⟨Nat.le_refl g,d⟩ (int i64 (k+1))).trans (zx.of_below j);clear o I A F B G j;obtain⟨v2,D⟩:=f.cell (t*13+2) (by omega)
   have H:=f.ice (t*13+2);have E:=f.leg hlt;have h:=f.put (t*13+2) (by omega) (.string s)
   have u:=r.set (a:=⟨g,t*13+2,none⟩) ⟨Nat.le_refl g,d⟩ (.string s);go_wp2_with fail;have V:zij (W.setCell ⟨g,t*13+2,none⟩ (.string s)) lo (l t) (S t).lgn:=h.legs t hlt;refine(zmu n1 (by omega) (by omega) V).mono ?_
   rintro e w4 ⟨rfl,U,L⟩;have c:=h.mark hlt L U;have J:=u.trans (L.mono (fun b e=>by have e:b=l t:=e;exact⟨by omega,by omega⟩))
   clear f r h u D H E V U L W;obtain⟨v4,Z⟩:=c.cell (t*13+4) (by omega)
   have a5:=c.ice (t*13+4);obtain⟨v5,a0⟩:=c.cell (t*13+5) (by omega)
   have a6:=c.ice (t*13+5);obtain⟨v6,a1⟩:=c.cell (t*13+6) (by omega)
   have a7:=c.ice (t*13+6);obtain⟨v7,a2⟩:=c.cell (t*13+7) (by omega)
   have a8:=c.ice (t*13+7);obtain⟨v8,a3⟩:=c.cell (t*13+8) (by omega)
   have a9:=c.ice (t*13+8);obtain⟨v9,a4⟩:=c.cell (t*13+9) (by omega)
   have b0:=c.ice (t*13+9);obtain⟨b6,M⟩:=c.cell (t*13+10) (by omega)
   have Q:=c.ice (t*13+10);obtain⟨b7,O⟩:=c.cell (t*13+11) (by omega)
   have R:=c.ice (t*13+11);obtain⟨b8,P⟩:=c.cell (t*13+12) (by omega)
   have T:=c.ice (t*13+12);go_wp2;go_roundw
   case rel=>exact⟨t+1,k+12+(S t).lgn,by omega,by go_num,by go_num,by omega,((((((((c.put (t*13+4) (by omega) _).put (t*13+5) (by omega) _).put (t*13+6) (by omega) _).put (t*13+7) (by omega) _).put (t*13+8) (by omega) _).put (t*13+9) (by omega) _).put (t*13+10) (by omega) _).put (t*13+11) (by omega) _).put (t*13+12) (by omega) _,((((((((J.set (a:=⟨g,t*13+4,none⟩) ⟨Nat.le_refl g,d⟩ _).set (a:=⟨g,t*13+5,none⟩) ⟨Nat.le_refl g,d⟩ _).set (a:=⟨g,t*13+6,none⟩) ⟨Nat.le_refl g,d⟩ _).set (a:=⟨g,t*13+7,none⟩) ⟨Nat.le_refl g,d⟩ _).set (a:=⟨g,t*13+8,none⟩) ⟨Nat.le_refl g,d⟩ _).set (a:=⟨g,t*13+9,none⟩) ⟨Nat.le_refl g,d⟩ _).set (a:=⟨g,t*13+10,none⟩) ⟨Nat.le_refl g,d⟩ _).set (a:=⟨g,t*13+11,none⟩) ⟨Nat.le_refl g,d⟩ _).set (a:=⟨g,t*13+12,none⟩) ⟨Nat.le_refl g,d⟩ _⟩
   case measure=>simp[intOf];omega
  ·obtain rfl:t=N:=by omega
   go_wp2;go_ret;exact⟨⟨k,by omega,rfl⟩,I.mono (fun b e=>by have e:g<=b/\b<p:=e;exact⟨by omega,by omega⟩)⟩
end
theorem zjy (cs:List Value)(x:Off)(lo a:Nat)(w:World)(V:Off.Short x 1048576)(U:Off.In w lo a cs x)(hh:a<=w.heap.size) :
  Calls Tryz.prog 15 #[.agg cs.toArray,int i64 1] w fun e w'=>(∃ k:Nat,k<=40000000000000/\e=.returned (int i64 k))/\zx w w' (fun b=>lo<=b/\b<a):=by
 obtain⟨p,q,d,l,c,g,C,f,E,rfl,hm,h1,h2,h3⟩:=U;obtain⟨⟨K,s⟩,⟨Z,L⟩,⟨n3,M⟩⟩:=V;have j:Below w.heap.size w (w.alloc (.cells #[.slice (some ⟨d,0,none⟩) x.san x.san,.slice (some ⟨g,0,none⟩) x.ldn x.ldn,.slice (some ⟨f,0,none⟩) x.bkn x.bkn] 38)):=zk bZ _;have y:=heap_alloc_new w (.cells #[.slice (some ⟨d,0,none⟩) x.san x.san,.slice (some ⟨g,0,none⟩) x.ldn x.ldn,.slice (some ⟨f,0,none⟩) x.bkn x.bkn] 38);have J:=h1.made.mark K (fun i a=>(s i a).2.2.1) (fun i a=>(s i a).2.2.2)
 have Q:Hid (∀ i,i<x.san->(x.sa i).la.n<=1048576):=fun i a=>(s i a).2.2.1
 have P:Hid (∀ i,i<x.san->(x.sa i).ca.n<=1048576):=fun i a=>(s i a).2.2.2
 have t:Hid (∀ i,i<x.san->c i<p):=fun i a=>(h1.lh i a).2
 have gl:=h1.made.lo;have gh:=h1.gh;have N:=hI h2;have O:=hI h3;have R:=hI J;have u:=hI L;have v:=hI M;clear h1 h2 h3 s L M J
 show Calls Tryz.prog 15 #[.agg #[.slice (some ⟨d,0,none⟩) x.san x.san,.slice (some ⟨g,0,none⟩) x.ldn x.ldn,.slice (some ⟨f,0,none⟩) x.bkn x.bkn],int i64 1] w _
 go_enter Tryz.func15,Tryz.ntmps15;go_wp2_with fail;generalize w.alloc (.cells #[.slice (some ⟨d,0,none⟩) x.san x.san,.slice (some ⟨g,0,none⟩) x.ldn x.ldn,.slice (some ⟨f,0,none⟩) x.bkn x.bkn] 38)=S at j y ⊢;refine(zfY d x.san p lo 1 _ _ l c S K (by omega) Q.out P.out gh t.out (R.out.below j)).mono ?_
 rintro e H ⟨⟨W,A,rfl⟩,m⟩;have o:zx w H (fun b=>lo<=b/\b<p):=(zx.of_below j).trans (m.mono (fun b e=>by have e:d<=b/\b<p:=e;exact⟨by omega,e.2⟩))
 have h:=m.blk y (by omega)
 have q1:=za h 1 _ rfl;go_wp2_with fail;refine(zjw g x.ldn p q W x.ld C H Z A u.out (N.out.kept o (fun b e=>by omega))).mono ?_
 rintro e I ⟨⟨X,B,rfl⟩,n⟩;have r:zx w I (fun b=>lo<=b/\b<q):=(o.mono (fun b e=>by have e:lo<=b/\b<p:=e;exact⟨by omega,by omega⟩)).trans (n.mono (fun b e=>by have e:p<=b/\b<q:=e;exact⟨by omega,by omega⟩))
 have z:=n.blk h (by omega)
 have q2:=za z 2 _ rfl;clear q1 h o m n y;go_wp2_with fail;refine(zfZ f x.bkn q a X x.bk E I n3 B v.out (O.out.kept r (fun b e=>by omega))).mono ?_
 rintro e T ⟨⟨Y,D,rfl⟩,F⟩;have G:zx w T (fun b=>lo<=b/\b<a):=(r.mono (fun b e=>by have e:lo<=b/\b<q:=e;exact⟨by omega,by omega⟩)).trans (F.mono (fun b e=>by have e:q<=b/\b<a:=e;exact⟨by omega,by omega⟩))
 go_wp2;go_ret;exact⟨⟨Y,D,rfl⟩,G⟩
theorem zlh (cs:List Value)(x:OpD)(lo d k:Nat)(w:World)(j:OpD.Short x 1048576)(m:OpD.In w lo d cs x)(hk:k<=100000000000000) :
  Calls Tryz.prog 16 #[.agg cs.toArray,int i64 k] w fun e w'=>e=.returned (int i64 ((k:Int)+x.lgn))/\zx w w' (fun b=>lo<=b/\b<d):=by
 obtain⟨g,rfl,h1,h2,h3⟩:=m;have hn:=j.2;have hr:w.ownsRow lo 3 1 (.slice (some ⟨g,0,none⟩) x.lgn x.lgn) x.lgn (zS x.lg x.lgn):=by
  have:=Zz (size:=1) (n:=x.lgn) (base:=lo) (by rw[Nat.mul_one];exact h3) h1 (by unfold maxLen;omega)
  rw[Nat.mul_one] at this;exact this
 have f:=heap_alloc_new w (.cells #[int i64 x.kind,.string x.own,int i64 x.name,.slice (some ⟨g,0,none⟩) x.lgn x.lgn,int i64 x.pe,int i64 x.len,int i64 x.hei,int i64 x.cl,.bool x.all,int i64 x.be,int i64 x.unt,int i64 x.now] 47);have a:Below w.heap.size w (w.alloc (.cells #[int i64 x.kind,.string x.own,int i64 x.name,.slice (some ⟨g,0,none⟩) x.lgn x.lgn,int i64 x.pe,int i64 x.len,int i64 x.hei,int i64 x.cl,.bool x.all,int i64 x.be,int i64 x.unt,int i64 x.now] 47)):=zk bZ _;have i:Hid _:=zo a hr;have l:Hid (lo<=g/\g<d):=⟨h1,h2⟩;clear hr h3 h1 h2 j;unfold ZY
 show Calls Tryz.prog 16 #[.agg #[int i64 x.kind,.string x.own,int i64 x.name,.slice (some ⟨g,0,none⟩) x.lgn x.lgn,int i64 x.pe,int i64 x.len,int i64 x.hei,int i64 x.cl,.bool x.all,int i64 x.be,int i64 x.unt,int i64 x.now],int i64 k] w _
 go_enter Tryz.func16,Tryz.ntmps16;go_wp2_with fail;generalize w.alloc (.cells #[int i64 x.kind,.string x.own,int i64 x.name,.slice (some ⟨g,0,none⟩) x.lgn x.lgn,int i64 x.pe,int i64 x.len,int i64 x.hei,int i64 x.cl,.bool x.all,int i64 x.be,int i64 x.unt,int i64 x.now] 47)=W at f a i ⊢;have p:=za f 3 _ rfl;go_wp2_with fail;refine(zdE (some ⟨g,0,none⟩) x.lgn x.lgn lo x.lg k W (by omega) (by omega) (by omega) i.out).mono ?_
 rintro e o ⟨rfl,_,c⟩;have h:Hid (zx w o (fun b=>lo<=b/\b<d)):=(zx.of_below a).trans (c.mono (fun b ⟨q,e1,e2⟩=>by cases e1;subst e2;exact l.out))
 clear c p f a;go_wp2;go_ret;exact⟨rfl,h.out⟩
section
open Go.RowKit
end
theorem zof (a:Int)(b:ByteArray)(c:Int)(d:Int)(f:Int)(w:World) :
  Calls Tryz.prog 126 #[.agg #[int i64 a,.string b,int i64 c,int i64 d,int i64 f],.agg #[int i64 a,.string b,int i64 c,int i64 d,int i64 f]] w fun e w'=>e=.returned (.bool true)/\Below w.heap.size w w':=by
 go_enter Tryz.func126,Tryz.ntmps126;go_wp2;go_ret;exact⟨rfl,zk (zk bZ _) _⟩
/-- eqRowS at two lists that are one. -/
theorem zmv (q bo:Option Addr)(n c1 c2:Nat)(S:Nat->zcB)(w:World)(hn:n<=2097152)(D:zbk w q n S)(E:zbk w bo n S) :
  Calls Tryz.prog 60 #[.slice q n c1,.slice bo n c2] w fun e w'=>e=.returned (.bool true)/\Below w.heap.size w w':=by
 go_enter Tryz.func60,Tryz.ntmps60;go_wp2;go_loopw [5] (fun i wr=>∃ k:Nat,k<=n/\i=int i64 k/\Below w.heap.size w wr) (fun i _=>n - (intOf i).toNat)
 case atStart=>exact⟨0,Nat.zero_le _,rfl,bZ⟩
 case round =>
  obtain⟨k,hk,rfl,a⟩:=hrel
  by_cases hlt:k<n
  ·obtain⟨b,off,rfl,o,h1,h2,h3,C⟩:=D k (by omega)
   obtain⟨h,c,rfl,m,y,z,A,B⟩:=E k (by omega)
   have l:=World.block_lt_of_cell? w _ o;have g:=World.block_lt_of_cell? w _ m;have r:=(a.cell (p:=⟨b,off+k*5,none⟩) l).trans o;have s:=(a.cell (p:=⟨h,c+k*5,none⟩) g).trans m;have c1:=(a.cell (p:=⟨b,off+k*5+1,none⟩) l).trans h1;have t:=(a.cell (p:=⟨h,c+k*5+1,none⟩) g).trans y;have c2:=(a.cell (p:=⟨b,off+k*5+2,none⟩) l).trans h2;have u:=(a.cell (p:=⟨h,c+k*5+2,none⟩) g).trans z;have c3:=(a.cell (p:=⟨b,off+k*5+3,none⟩) l).trans h3;have v:=(a.cell (p:=⟨h,c+k*5+3,none⟩) g).trans A;have c4:=(a.cell (p:=⟨b,off+k*5+4,none⟩) l).trans C;have x:=(a.cell (p:=⟨h,c+k*5+4,none⟩) g).trans B;clear o m h1 y h2 z h3 A C B;have j:b<wr.heap.size:=Nat.lt_of_lt_of_le l a.size;have f:h<wr.heap.size:=Nat.lt_of_lt_of_le g a.size;have i1:(0:Int)<=(k:Int):=by omega
   have i2:(k:Int)<(n:Int):=by omega
   go_wp2;go_region_held3 (fun w'=>w'.cell? ⟨b,off+k*5,none⟩=some (int i64 (S k).name)/\w'.cell? ⟨b,off+k*5+1,none⟩=some (.string (S k).own)/\w'.cell? ⟨b,off+k*5+2,none⟩=some (int i64 (S k).pe)/\w'.cell? ⟨b,off+k*5+3,none⟩=some (int i64 (S k).ln)/\w'.cell? ⟨b,off+k*5+4,none⟩=some (int i64 (S k).cab)/\w'.cell? ⟨h,c+k*5,none⟩=some (int i64 (S k).name)/\w'.cell? ⟨h,c+k*5+1,none⟩=some (.string (S k).own)/\w'.cell? ⟨h,c+k*5+2,none⟩=some (int i64 (S k).pe)/\w'.cell? ⟨h,c+k*5+3,none⟩=some (int i64 (S k).ln)/\w'.cell? ⟨h,c+k*5+4,none⟩=some (int i64 (S k).cab))
    (first|exact⟨r,c1,c2,c3,c4,s,t,u,v,x⟩|exact⟨(d.cell j).trans r,(d.cell j).trans c1,(d.cell j).trans c2,(d.cell j).trans c3,(d.cell j).trans c4,(d.cell f).trans s,(d.cell f).trans t,(d.cell f).trans u,(d.cell f).trans v,(d.cell f).trans x⟩)
    (first|(go_at_call 126;refine(zof _ _ _ _ _ _).mono ?_;rintro e w2 ⟨rfl,d⟩))
   go_wp2;go_roundw
   case rel=>exact⟨k+1,by omega,by go_num,ze a.drew d⟩
   case measure=>simp[intOf];omega
  ·go_wp2
   go_ret;exact⟨rfl,a⟩
section
open Go.RowKit
end
end Go.Proofs.YtmdnjgihooflfaaGreatDoor

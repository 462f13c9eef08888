/-
  OWN TEXT: KitDo, KitEn, PlainDx, SpecFd, SpecFe.
-/
import Derived.Deep.DeepCutAuto
import Derived.Test.YtfallpinmhbemaaGreatDoorB20
namespace Go.Proofs.YtfallpinmhbemaaGreatDoor
open Go.RowKit
open Go.Value (int)
open Go.IntKind (i64)
set_option maxHeartbeats 64000000
set_option maxRecDepth 100000
section
open Go.RowKit
theorem zaE (L:Nat->qT)(k:Nat)(x:qT):zfC L k x k=x:=if_pos rfl
theorem zaF (L:Nat->qT)(k:Nat)(x:qT){j:Nat}(h:j≠k):zfC L k x j=L j:=if_neg h
theorem setL_same (L:Nat->qT)(k:Nat):zfC L k (L k)=L:=by
 funext j
 unfold zfC
 by_cases c:j=k
 ·subst c;rw[if_pos rfl]
 ·rw[if_neg c]
theorem FarV.put {A:Nat->Value}{N k lim:Nat}{a:Value}(h:FarV N A)(f:∀ i,i<N->∀ b,(A i).ownBlock=some b->b<lim)(g:∀ b,a.ownBlock=some b->lim<=b):FarV N (atV A k a):=fun i j l m e b d c=>by
 by_cases ei:i=k
 ·subst ei
  rw[atV_at] at d;rw[atV_ne _ _ _ _ (fun h=>e h.symm)] at c
  have:=f j m b c;have:=g b d
  omega
 ·rw[atV_ne _ _ _ _ ei] at d
  by_cases ej:j=k
  ·subst ej
   rw[atV_at] at c;have:=f i l b d;have:=g b c
   omega
  ·rw[atV_ne _ _ _ _ ej] at c
   exact h i j l m e b d c
section
variable {w w' : World} {base g c k N n lim : Nat} {S : Nat -> qT} {A B C : Nat -> Value} {u : Value}
theorem zid (h:w.ownsRow base 136 3 (.slice (some ⟨g,0,none⟩) N c) N (zbx A B C N)):(w.setCell ⟨g,k*3+0,none⟩ u).ownsRow base 136 3 (.slice (some ⟨g,0,none⟩) N c) N (zbx (atV A k u) B C N):=by
 refine own_congr (own_store h (k*3+0) u) (fun j hj=>?_)
 by_cases h2:j=k*3+0
 ·subst h2
  rw[if_pos rfl,zM 3 _ k 0 (by decide)]
  unfold ldC;rw[atV_at]
  rfl
 ·rw[if_neg h2]
  unfold recCell ldC
  by_cases e:j / 3=k
  ·have a:j % 3=1∨j % 3=2:=by omega
   rcases a with a|a <;> rw[a] <;> rfl
  ·rw[atV_ne _ _ _ _ e]
theorem zie (h:w.ownsRow base 136 3 (.slice (some ⟨g,0,none⟩) N c) N (zbx A B C N)):(w.setCell ⟨g,k*3+1,none⟩ u).ownsRow base 136 3 (.slice (some ⟨g,0,none⟩) N c) N (zbx A (atV B k u) C N):=by
 refine own_congr (own_store h (k*3+1) u) (fun j hj=>?_)
 by_cases h2:j=k*3+1
 ·subst h2
  rw[if_pos rfl,zM 3 _ k 1 (by decide)]
  unfold ldC;rw[atV_at]
  rfl
 ·rw[if_neg h2]
  unfold recCell ldC
  by_cases e:j / 3=k
  ·have a:j % 3=0∨j % 3=2:=by omega
   rcases a with a|a <;> rw[a] <;> rfl
  ·rw[atV_ne _ _ _ _ e]
theorem zif (h:w.ownsRow base 136 3 (.slice (some ⟨g,0,none⟩) N c) N (zbx A B C N)):(w.setCell ⟨g,k*3+2,none⟩ u).ownsRow base 136 3 (.slice (some ⟨g,0,none⟩) N c) N (zbx A B (atV C k u) N):=by
 refine own_congr (own_store h (k*3+2) u) (fun j hj=>?_)
 by_cases h2:j=k*3+2
 ·subst h2
  rw[if_pos rfl,zM 3 _ k 2 (by decide)]
  unfold ldC;rw[atV_at]
  rfl
 ·rw[if_neg h2]
  unfold recCell ldC
  by_cases e:j / 3=k
  ·have a:j % 3=0∨j % 3=1:=by omega
   rcases a with a|a <;> rw[a] <;> rfl
  ·rw[atV_ne _ _ _ _ e]
theorem Zb.putSt {T:Nat->ZX}(h:Zb w base (.slice (some ⟨g,0,none⟩) N c) N S A B C)(f:∀ i,i<N->∀ b,(A i).ownBlock=some b->b<lim)(hl:w.ownsRow lim 186 4 u n (zX T n))(j:base<=lim) :
  Zb (w.setCell ⟨g,k*3+0,none⟩ u) base (.slice (some ⟨g,0,none⟩) N c) N (zfC S k { S k with stn:=n,st:=T }) (atV A k u) B C:=by
 have r:zA w (w.setCell ⟨g,k*3+0,none⟩ u) (fun x=>x=g):=(zA.refl w (fun x=>x=g)).set (a:=⟨g,k*3+0,none⟩) rfl _
 have far:∀ {t sz n:Nat} {v:Value} {p:List Value},w.ownsRow base t sz v n p->136≠t->(w.setCell ⟨g,k*3+0,none⟩ u).ownsRow base t sz v n p:=fun o s=>r.own o (fun q l m=>own_apart h.row o s q (by rw[m];rfl) l)
 refine⟨zid h.row,fun i d=>?_,fun i d=>?_,fun i d=>?_,h.far.1.put f (fun b e=>(hl.lt b e).1),h.far.2.1,h.far.2.2⟩
 ·by_cases e:i=k
  ·subst e;rw[atV_at,zaE];exact far (zE hl j) (by decide)
  ·rw[atV_ne _ _ _ _ e,zaF _ _ _ e];exact far (h.st i d) (by decide)
 ·by_cases e:i=k
  ·subst e;rw[zaE];exact far (h.ro i d) (by decide)
  ·rw[zaF _ _ _ e];exact far (h.ro i d) (by decide)
 ·by_cases e:i=k
  ·subst e;rw[zaE];exact far (h.se i d) (by decide)
  ·rw[zaF _ _ _ e];exact far (h.se i d) (by decide)
theorem Zb.putRo {T:Nat->ZF}(h:Zb w base (.slice (some ⟨g,0,none⟩) N c) N S A B C)(f:∀ i,i<N->∀ b,(B i).ownBlock=some b->b<lim)(hl:w.ownsRow lim 190 4 u n (zQ T n))(j:base<=lim) :
  Zb (w.setCell ⟨g,k*3+1,none⟩ u) base (.slice (some ⟨g,0,none⟩) N c) N (zfC S k { S k with ron:=n,ro:=T }) A (atV B k u) C:=by
 have r:zA w (w.setCell ⟨g,k*3+1,none⟩ u) (fun x=>x=g):=(zA.refl w (fun x=>x=g)).set (a:=⟨g,k*3+1,none⟩) rfl _
 have far:∀ {t sz n:Nat} {v:Value} {p:List Value},w.ownsRow base t sz v n p->136≠t->(w.setCell ⟨g,k*3+1,none⟩ u).ownsRow base t sz v n p:=fun o s=>r.own o (fun q l m=>own_apart h.row o s q (by rw[m];rfl) l)
 refine⟨zie h.row,fun i d=>?_,fun i d=>?_,fun i d=>?_,h.far.1,h.far.2.1.put f (fun b e=>(hl.lt b e).1),h.far.2.2⟩
 ·by_cases e:i=k
  ·subst e;rw[zaE];exact far (h.st i d) (by decide)
  ·rw[zaF _ _ _ e];exact far (h.st i d) (by decide)
 ·by_cases e:i=k
  ·subst e;rw[atV_at,zaE];exact far (zE hl j) (by decide)
  ·rw[atV_ne _ _ _ _ e,zaF _ _ _ e];exact far (h.ro i d) (by decide)
 ·by_cases e:i=k
  ·subst e;rw[zaE];exact far (h.se i d) (by decide)
  ·rw[zaF _ _ _ e];exact far (h.se i d) (by decide)
theorem Zb.putSe {T:Nat->zaf}(h:Zb w base (.slice (some ⟨g,0,none⟩) N c) N S A B C)(f:∀ i,i<N->∀ b,(C i).ownBlock=some b->b<lim)(hl:w.ownsRow lim 138 2 u n (zW T n))(j:base<=lim) :
  Zb (w.setCell ⟨g,k*3+2,none⟩ u) base (.slice (some ⟨g,0,none⟩) N c) N (zfC S k { S k with sen:=n,se:=T }) A B (atV C k u):=by
 have r:zA w (w.setCell ⟨g,k*3+2,none⟩ u) (fun x=>x=g):=(zA.refl w (fun x=>x=g)).set (a:=⟨g,k*3+2,none⟩) rfl _
 have far:∀ {t sz n:Nat} {v:Value} {p:List Value},w.ownsRow base t sz v n p->136≠t->(w.setCell ⟨g,k*3+2,none⟩ u).ownsRow base t sz v n p:=fun o s=>r.own o (fun q l m=>own_apart h.row o s q (by rw[m];rfl) l)
 refine⟨zif h.row,fun i d=>?_,fun i d=>?_,fun i d=>?_,h.far.1,h.far.2.1,h.far.2.2.put f (fun b e=>(hl.lt b e).1)⟩
 ·by_cases e:i=k
  ·subst e;rw[zaE];exact far (h.st i d) (by decide)
  ·rw[zaF _ _ _ e];exact far (h.st i d) (by decide)
 ·by_cases e:i=k
  ·subst e;rw[zaE];exact far (h.ro i d) (by decide)
  ·rw[zaF _ _ _ e];exact far (h.ro i d) (by decide)
 ·by_cases e:i=k
  ·subst e;rw[atV_at,zaE];exact far (zE hl j) (by decide)
  ·rw[atV_ne _ _ _ _ e,zaF _ _ _ e];exact far (h.se i d) (by decide)
end
section
variable {w w' : World} {base g c k lim n n1 n2 n3 : Nat} {v1 v3 u : Value} {x : Off} {L C A B D E : Nat -> Value}
theorem zV.putSt {T:Nat->ZX}(h:zV w base v1 (.slice (some ⟨g,0,none⟩) n2 c) v3 n1 n2 n3 x L C A B D E)(d:∀ i,i<n2->∀ b,(A i).ownBlock=some b->b<lim)(hl:w.ownsRow lim 186 4 u n (zX T n))(j:base<=lim) :
  zV (w.setCell ⟨g,k*3+0,none⟩ u) base v1 (.slice (some ⟨g,0,none⟩) n2 c) v3 n1 n2 n3 { x with ld:=zfC x.ld k { x.ld k with stn:=n,st:=T } } L C (atV A k u) B D E:=by
 have l:zA w (w.setCell ⟨g,k*3+0,none⟩ u) (fun x=>x=g):=(zA.refl w (fun x=>x=g)).set (a:=⟨g,k*3+0,none⟩) rfl _
 exact⟨h.sa.other l (fun q e=>by obtain⟨cs,f⟩:=zT h.ld.row q (by rw[show q=g from e];rfl);exact⟨cs,_,f,by decide,by decide,by decide⟩),h.ld.putSt d hl j,h.bk.other l (fun q e=>by obtain⟨cs,f⟩:=zT h.ld.row q (by rw[show q=g from e];rfl);exact⟨cs,_,f,by decide,by decide⟩)⟩
theorem zV.putRo {T:Nat->ZF}(h:zV w base v1 (.slice (some ⟨g,0,none⟩) n2 c) v3 n1 n2 n3 x L C A B D E)(d:∀ i,i<n2->∀ b,(B i).ownBlock=some b->b<lim)(hl:w.ownsRow lim 190 4 u n (zQ T n))(j:base<=lim) :
  zV (w.setCell ⟨g,k*3+1,none⟩ u) base v1 (.slice (some ⟨g,0,none⟩) n2 c) v3 n1 n2 n3 { x with ld:=zfC x.ld k { x.ld k with ron:=n,ro:=T } } L C A (atV B k u) D E:=by
 have l:zA w (w.setCell ⟨g,k*3+1,none⟩ u) (fun x=>x=g):=(zA.refl w (fun x=>x=g)).set (a:=⟨g,k*3+1,none⟩) rfl _
 exact⟨h.sa.other l (fun q e=>by obtain⟨cs,f⟩:=zT h.ld.row q (by rw[show q=g from e];rfl);exact⟨cs,_,f,by decide,by decide,by decide⟩),h.ld.putRo d hl j,h.bk.other l (fun q e=>by obtain⟨cs,f⟩:=zT h.ld.row q (by rw[show q=g from e];rfl);exact⟨cs,_,f,by decide,by decide⟩)⟩
theorem zV.putSe {T:Nat->zaf}(h:zV w base v1 (.slice (some ⟨g,0,none⟩) n2 c) v3 n1 n2 n3 x L C A B D E)(d:∀ i,i<n2->∀ b,(D i).ownBlock=some b->b<lim)(hl:w.ownsRow lim 138 2 u n (zW T n))(j:base<=lim) :
  zV (w.setCell ⟨g,k*3+2,none⟩ u) base v1 (.slice (some ⟨g,0,none⟩) n2 c) v3 n1 n2 n3 { x with ld:=zfC x.ld k { x.ld k with sen:=n,se:=T } } L C A B (atV D k u) E:=by
 have l:zA w (w.setCell ⟨g,k*3+2,none⟩ u) (fun x=>x=g):=(zA.refl w (fun x=>x=g)).set (a:=⟨g,k*3+2,none⟩) rfl _
 exact⟨h.sa.other l (fun q e=>by obtain⟨cs,f⟩:=zT h.ld.row q (by rw[show q=g from e];rfl);exact⟨cs,_,f,by decide,by decide,by decide⟩),h.ld.putSe d hl j,h.bk.other l (fun q e=>by obtain⟨cs,f⟩:=zT h.ld.row q (by rw[show q=g from e];rfl);exact⟨cs,_,f,by decide,by decide⟩)⟩
end
end
section
open Go.RowKit
def QC (S:Nat->ZK)(k:Nat)(b:ZK)(i:Nat):ZK:=if i=k then b else S i
theorem Zn (S:Nat->ZK)(k:Nat)(b:ZK):QC S k b k=b:=if_pos rfl
theorem Qr (S:Nat->ZK)(k:Nat)(b:ZK){i:Nat}(h:i≠k):QC S k b i=S i:=if_neg h
theorem setB_setB (S:Nat->ZK)(k:Nat)(a b:ZK):QC (QC S k a) k b=QC S k b:=by
 funext i
 unfold QC
 split <;> rfl
def qA (b:ZK)(a:Int)(y:OpD):ZK :=
 if y.kind=4 then { b with state:=2,unt:=0 }
 else if y.kind=5 then { b with who:=a,lgn:=y.lgn,lg:=y.lg,pe:=y.pe,len:=y.len,hei:=y.hei,cl:=y.cl,all:=y.all,be:=y.be,price:=Zg ⟨y.pe,y.len,y.hei,y.cl,y.all,y.be⟩ y.lgn }
 else if y.kind=6 then { b with state:=3,unt:=0 }
 else if y.kind=7 then { b with own:=y.own }
 else { b with state:=4 }
def Qa (n:Nat)(a:Int)(y:OpD):ZK :=
 ⟨(n:Int)+1,a,y.own,y.lgn,y.lg,y.pe,y.len,y.hei,y.cl,y.all,y.be,if y.kind=2 then 1 else 2,if y.kind=2 then y.unt else 0,Zg ⟨y.pe,y.len,y.hei,y.cl,y.all,y.be⟩ y.lgn⟩
theorem zcs (sz:Nat)(a:0<sz){C C':Nat->List Value}{f:Nat->Value}{k:Nat}(b:∀ r,r<sz->f (k*sz+r)=(C' k).getD r (.bool false))(c:∀ j,j / sz≠k->f j=recCell sz C j)(d:∀ i,i≠k->C' i=C i)(j:Nat):f j=recCell sz C' j:=by
 by_cases e:j / sz=k
 ·have g:j=k*sz+j % sz:=by rw[← e,Nat.mul_comm];exact(Nat.div_add_mod j sz).symm
  rw[g,b _ (Nat.mod_lt _ a),zM sz _ _ _ (Nat.mod_lt _ a)]
 ·rw[c j e]
  unfold recCell;rw[d _ e]
section
variable {w w' : World} {base g c k N : Nat} {S : Nat -> ZK} {E : Nat -> Value} {u : Value} {y : ZK}
theorem Zj.put (h:Zj w base (.slice (some ⟨g,0,none⟩) N c) N S E)(z:zA w w' (fun b=>b=g))(f:w'.ownsRow base 131 13 (.slice (some ⟨g,0,none⟩) N c) N (Qp (QC S k y) (atV E k u) N))(hl:w.ownsRow base 3 1 u y.lgn (zJ y.lg y.lgn))(p:∀ i,i<N->i≠k->∀ b,(E i).ownBlock=some b->u.ownBlock≠some b) :
  Zj w' base (.slice (some ⟨g,0,none⟩) N c) N (QC S k y) (atV E k u):=by
 have far:∀ {n:Nat} {v:Value} {t:List Value},w.ownsRow base 3 1 v n t->w'.ownsRow base 3 1 v n t:=fun s=>z.own s (fun q m o=>own_apart h.row s (by decide) q (by rw[o];rfl) m)
 refine⟨f,fun i x=>?_,fun i j l r b d a=>?_⟩
 ·by_cases e:i=k
  ·subst e;rw[atV_at,Zn];exact far hl
  ·rw[atV_ne _ _ _ _ e,Qr _ _ _ e];exact far (h.legs i x)
 ·by_cases e:i=k
  ·subst e
   rw[atV_at] at d;rw[atV_ne _ _ _ _ (by omega)] at a
   exact p j r (by omega) b a d
  ·rw[atV_ne _ _ _ _ e] at d
   by_cases e2:j=k
   ·subst e2
    rw[atV_at] at a;exact p i (by omega) e b d a
   ·rw[atV_ne _ _ _ _ e2] at a
    exact h.apart i j l r b d a
theorem Zj.far_same (h:Zj w base (.slice (some ⟨g,0,none⟩) N c) N S E)(j:k<N):∀ i,i<N->i≠k->∀ b,(E i).ownBlock=some b->(E k).ownBlock≠some b:=fun i f a b d e=>by
 rcases Nat.lt_or_gt_of_ne a with c|c
 ·exact h.apart i k c j b d e
 ·exact h.apart k i c f b e d
end
section
variable {w w' : World} {base g c k n1 n2 n3 : Nat} {v1 v2 u : Value} {x : Off} {L C A B D E : Nat -> Value} {y : ZK}
theorem zV.putBk (h:zV w base v1 v2 (.slice (some ⟨g,0,none⟩) n3 c) n1 n2 n3 x L C A B D E)(f:zA w w' (fun b=>b=g))(a:w'.ownsRow base 131 13 (.slice (some ⟨g,0,none⟩) n3 c) n3 (Qp (QC x.bk k y) (atV E k u) n3))(hl:w.ownsRow base 3 1 u y.lgn (zJ y.lg y.lgn))(j:∀ i,i<n3->i≠k->∀ b,(E i).ownBlock=some b->u.ownBlock≠some b) :
  zV w' base v1 v2 (.slice (some ⟨g,0,none⟩) n3 c) n1 n2 n3 { x with bk:=QC x.bk k y } L C A B D (atV E k u) :=
 ⟨h.sa.other f (fun q e=>by obtain⟨cs,d⟩:=zT h.bk.row q (by rw[show q=g from e];rfl);exact⟨cs,_,d,by decide,by decide,by decide⟩),h.ld.other f (fun q e=>by obtain⟨cs,d⟩:=zT h.bk.row q (by rw[show q=g from e];rfl);exact⟨cs,_,d,by decide,by decide,by decide,by decide⟩),h.bk.put f a hl j⟩
end
def zbf (g base N d c:Nat)(b a:Option Addr)(T:Nat->Prop)(f:Off)(code name price:Int)(h:World->Value->Prop)(L C A B D:Nat->Value)(w:World)(e:Ending)(w':World):Prop :=
 ∃ abk cbk rv E,e=.returned (.agg #[int i64 code,int i64 name,int i64 price,rv])/\h w' rv/\zV w' base (.slice b N d) (.slice a N c) (.slice abk f.bkn cbk) N N f.bkn f L C A B D E /\
  w'.heap[g]?=some (.cells #[.slice b N d,.slice a N c,.slice abk f.bkn cbk] 66 (0,0))/\zA w w' T
theorem zeV {w:World}{g t:Nat}{u0 u1 u2 u3:Value}(h:w.heap[g]?=some (.cells #[u0,u1,u2,u3] t (0,0)))(a b c d:Value):((((w.setCell ⟨g,0,none⟩ a).setCell ⟨g,1,none⟩ b).setCell ⟨g,2,none⟩ c).setCell ⟨g,3,none⟩ d).heap[g]?=some (.cells #[a,b,c,d] t (0,0)):=by
 simpa using zy (zy (zy (zy h 0 a) 1 b) 2 c) 3 d
theorem QQ (w:World)(g:Nat)(c d e f:Value):zA w ((((w.setCell ⟨g,0,none⟩ c).setCell ⟨g,1,none⟩ d).setCell ⟨g,2,none⟩ e).setCell ⟨g,3,none⟩ f) (fun b=>b=g):=((((zA.refl w (fun b=>b=g)).set (a:=⟨g,0,none⟩) rfl c).set (a:=⟨g,1,none⟩) rfl d).set (a:=⟨g,2,none⟩) rfl e).set (a:=⟨g,3,none⟩) rfl f
theorem ans_at2 {w:World}{g t:Nat}{u0 u1 u2 u3:Value}(h:w.heap[g]?=some (.cells #[u0,u1,u2,u3] t (0,0)))(v:Value):(w.setCell ⟨g,2,none⟩ v).heap[g]?=some (.cells #[u0,u1,v,u3] t (0,0)):=by simpa using zy h 2 v
theorem keptN {w w':World}{T:Nat->Prop}(h:zA w w' T){b i:Nat}(hb:w.heap.size<=b)(u:Value):zA w (w'.setCell ⟨b,i,none⟩ u) T :=
 ⟨h.os,h.tape,h.output,by have:=h.size;simpa using this,fun k a c=>(Below.heap_setCell w' ⟨b,i,none⟩ u k (by show k≠b;omega)).trans (h.block k a c)⟩
theorem ints_off {w w':World}{c:Option Addr}{n base d:Nat}{F:Nat->Int}(i:zA w w' (fun b=>b=d))(h:IntsAt w c n F)(f:0<n->∀ a,c=some a->a.block<base)(hg:base<=d):IntsAt w' c n F:=fun k e=>by
 obtain⟨b,off,rfl,g⟩:=h k e;have hb:b<base:=f (by omega) _ rfl
 have j:=i.block b (World.block_lt_of_cell? w _ g) (by show ¬ b=d;omega)
 refine⟨b,off,rfl,?_⟩;rw[← g];unfold World.cell?;simp only[j]
theorem ZN {w w':World}{T:Nat->Prop}(h:zA w w' T){a:Addr}{v:Value}(b:w.cell? a=some v)(c:¬ T a.block):w'.cell? a=some v:=by
 have:=h.block a.block (World.block_lt_of_cell? w _ b) c;unfold World.cell? at b ⊢;rw[this];exact b
theorem Q0 {w Z:World}{T:Nat->Prop}{g c base n o n3:Nat}{s t u p q r u0 u1 u2 u3:Value}{x:Off}{L C A B D E:Nat->Value}(d:zA w Z T)(h:zV Z base s t u n o n3 x L C A B D E)(m:Z.heap[g]?=some (.cells #[p,q,r] 66 (0,0)))(b:Z.heap[c]?=some (.cells #[u0,u1,u2,u3] 127 (0,0)))(a:w.heap.size<=c)(i j k l:Value){F:World}(v:F=(((Z.setCell ⟨c,0,none⟩ i).setCell ⟨c,1,none⟩ j).setCell ⟨c,2,none⟩ k).setCell ⟨c,3,none⟩ l) :
  zV F base s t u n o n3 x L C A B D E/\F.heap[g]?=some (.cells #[p,q,r] 66 (0,0))/\zA w F T/\F.heap[c]?=some (.cells #[i,j,k,l] 127 (0,0)):=by
 subst v;have f:g≠c:=fun e=>by subst e;rw[m] at b;simp at b
 exact⟨h.box (QQ _ _ _ _ _ _) b (by decide),(QQ _ _ _ _ _ _).blk m f,keptN (keptN (keptN (keptN d a _) a _) a _) a _,zeV b _ _ _ _⟩
theorem zdo {w Z:World}{T:Nat->Prop}{g f tb base o q n3:Nat}{z G H r s t u0 u1 u2 u3 u v J y:Value}{x:Off}{L C A B D E:Nat->Value}(j:zA w Z T)(l:zV Z base z G H o q n3 x L C A B D E)(n:Z.heap[g]?=some (.cells #[r,s,t] 66 (0,0)))(h:Z.heap[f]?=some (.cells #[u0,u1,u2,u3] 127 (0,0)))(c:Z.heap[tb]?=some (.cells #[u,v,J,y] 127 (0,0)))(d:f≠tb)(m:w.heap.size<=tb)(p:Value){F:World}(I:F=Z.setCell ⟨tb,2,none⟩ p) :
  zV F base z G H o q n3 x L C A B D E/\F.heap[g]?=some (.cells #[r,s,t] 66 (0,0))/\zA w F T/\F.heap[f]?=some (.cells #[u0,u1,u2,u3] 127 (0,0))/\F.heap[tb]?=some (.cells #[u,v,p,y] 127 (0,0)):=by
 subst I;have k:g≠tb:=fun e=>by subst e;rw[n] at c;simp at c
 have i:zA Z (Z.setCell ⟨tb,2,none⟩ p) (fun b=>b=tb):=(zA.refl Z (fun b=>b=tb)).set (a:=⟨tb,2,none⟩) rfl p
 exact⟨l.box i c (by decide),i.blk n k,keptN j m _,i.blk h d,ans_at2 c p⟩
end
theorem zig {N n:Nat}{S:Nat->Sail}{G:Nat->Int}(c:zch N S)(h:zba N S n G):∀ d j,j+d+1<n->(S (qo S (G j) N)).arr<=(S (qo S (G (j+d+1)) N)).dep:=by
 intro d
 induction d with
 | zero =>
  intro j f;have:=(h.2.2 (j+1) (by omega)).2 (by omega)
  simpa using this.2
 | succ d ih =>
  intro j f;have h1:=ih j (by omega)
  have a:=((h.2.2 (j+(d+1)+1) (by omega)).2 (by omega)).2
  have b:=(c.2 _ (h.2.2 (j+d+1) (by omega)).1).1
  have e:j+(d+1)+1 - 1=j+d+1:=by omega
  rw[e] at a;have h4:(S (qo S (G (j+d+1)) N)).dep<(S (qo S (G (j+d+1)) N)).arr:=b.2.2.2.2.2.1
  omega
theorem zaG {N n:Nat}{S:Nat->Sail}{G:Nat->Int}(a:zch N S)(h:zba N S n G):∀ i,i<n->∀ j,j<i->G j≠G i:=fun i f j hj e=>by
 obtain⟨d,rfl⟩:∃ d,i=j+d+1:=⟨i - j - 1,by omega⟩
 have b:=zig a h d j f;rw[← e] at b;have c:=(a.2 _ (h.2.2 j (by omega)).1).1
 have h4:(S (qo S (G j) N)).dep<(S (qo S (G j) N)).arr:=c.2.2.2.2.2.1
 omega
def WkOk (x:Off)(v:Wk):Prop:=v.res<3/\qo x.sa v.leg x.san<x.san/\(v.goes=false->In v.who 1 9999/\qI v.p/\zbz v.p.len v.p.cl v.res=true)
def zah (x:Off)(y:OpD)(m:Nat):Prop:=Qz y/\¬ Qu x.san x y/\(In y.kind 4 8->y.name=(m:Int)+1/\m<x.bkn/\¬ zbB (x.bk m) y)
theorem zah.legs {x:Off}{y:OpD}{m:Nat}(h:zah x y m)(a:zR y.kind):zba x.san x.sa y.lgn y.lg:=by
 by_cases c:zba x.san x.sa y.lgn y.lg
 ·exact c
 ·exact absurd (.inl ⟨a,c⟩) h.2.1
theorem zah.party {x:Off}{y:OpD}{m:Nat}(h:zah x y m)(a:zR y.kind):qI ⟨y.pe,y.len,y.hei,y.cl,y.all,y.be⟩:=by
 have:=h.1.2.2.2.2.1;unfold qt at this;rw[if_pos a] at this;exact this
theorem zaH {k:Int}(h:zaa k):In k 4 8:=by
 unfold zaa at h;unfold In
 omega
theorem works_fit {x:Off}{y:OpD}{m:Nat}{d:Int}(j:Zy x)(h:zah x y m)(s:In d 1 9999)(q:∀ i,i<x.bkn->(x.bk i).who≠d) :
  (qN x d y m).Pairwise zdn/\∀ v ∈ qN x d y m,Apt x x.ld v/\WkOk x v:=by
 have k:=j.1;have g:zaa y.kind->m<x.bkn/\zee (x.bk m)/\zba x.san x.sa (x.bk m).lgn (x.bk m).lg:=fun t=>by
  obtain⟨_,a,r⟩:=h.2.2 (zaH t);refine⟨a,?_,(j.2.2.2.2.1 m a).2.2.2.1⟩
  by_cases c:zee (x.bk m)
  ·exact c
  ·exact absurd (.inl c) r
 constructor
 ·unfold qN
  by_cases h1:zaa y.kind
  ·obtain⟨n,hl,f⟩:=g h1
   rw[if_pos h1]
   by_cases a:zR y.kind
   ·rw[if_pos a]
    exact zfZ (zaG k f) (zaG k (h.legs a)) (q m n)
   ·rw[if_neg a,List.append_nil]
    exact QB _ _ _ _ _ (zaG k f)
  ·rw[if_neg h1,List.nil_append]
   by_cases a:zR y.kind
   ·rw[if_pos a]
    exact QB _ _ _ _ _ (zaG k (h.legs a))
   ·rw[if_neg a]
    exact List.Pairwise.nil
 ·intro v b
  unfold qN at b
  rcases List.mem_append.1 b with b|b
  ·by_cases h1:zaa y.kind
   ·rw[if_pos h1] at b
    obtain⟨n,hl,f⟩:=g h1;refine⟨j.apt_goes n hl rfl rfl b,?_⟩;obtain⟨⟨i,l,e⟩,o,p,_⟩:=QA b;exact⟨o,by rw[e];exact(f.2.2 i l).1,fun c=>by rw[p] at c;cases c⟩
   ·rw[if_neg h1] at b
    cases b
  ·by_cases a:zR y.kind
   ·rw[if_pos a] at b
    refine⟨j.apt_comes q b,?_⟩;obtain⟨⟨i,l,e⟩,o,p,z,u,w⟩:=QA b;refine⟨o,by rw[e];exact((h.legs a).2.2 i l).1,fun _=>?_⟩
    rw[z,u];exact⟨s,h.party a,w⟩
   ·rw[if_neg a] at b
    cases b
inductive Done (x:Off):List Wk->(Nat->qT)->(Nat->qT)->Prop
 | nil (L:Nat->qT):Done x [] L L
 | snoc (l:List Wk) (L M:Nat->qT) (v:Wk) (k:Nat) (z:qT) (h:Done x l L M) (hk:qo x.sa v.leg x.san=k) (hl:k<x.san) (hw:ZT (x.sa k) v (M k) 0 z):Done x (l++[v]) L (zfC M k z)
structure zct (x:Off)(l:List Wk)(j:Nat)(M:Nat->qT):Prop where
 done:Done x (l.take j) x.ld M
 good:∀ i,i<x.san->qJ (x.sa i) (M i)
 apt:∀ v ∈ l.drop j,Apt x M v
theorem zct.start {x:Off}{l:List Wk}(a:Zy x)(b:∀ v ∈ l,Apt x x.ld v):zct x l 0 x.ld :=
 ⟨by rw[List.take_zero];exact .nil _,a.2.2.2.1,by rw[List.drop_zero];exact b⟩
theorem zct.comes {x:Off}{l:List Wk}{j:Nat}{M:Nat->qT}{v:Wk}{k:Nat}(h:zct x l j M)(f:l[j]?=some v)(b:qo x.sa v.leg x.san=k)(hl:k<x.san)(i:WkOk x v):ComesOk v (M k):=fun a=>by
 obtain⟨c,d,e⟩:=i.2.2 a;refine⟨c,d,e,?_⟩;have g:v ∈ l.drop j:=by
  rw[List.mem_iff_getElem?];exact⟨0,by rw[List.getElem?_drop];simpa using f⟩
 have:=(h.apt v g).2 k hl (by rw[← b];exact zaZ _ _ _ (by rw[b];exact hl))
 rw[if_neg (by rw[a];decide)] at this
 exact this
theorem zct.there {x:Off}{l:List Wk}{j:Nat}{M:Nat->qT}{v:Wk}{k:Nat}(h:zct x l j M)(c:l[j]?=some v)(a:qo x.sa v.leg x.san=k)(hl:k<x.san)(b:v.goes=true):zeR (M k) v.res v.who:=by
 have d:v ∈ l.drop j:=by
  rw[List.mem_iff_getElem?];exact⟨0,by rw[List.getElem?_drop];simpa using c⟩
 have:=(h.apt v d).2 k hl (by rw[← a];exact zaZ _ _ _ (by rw[a];exact hl))
 rw[if_pos b] at this;exact this
theorem zct.next {x:Off}{l:List Wk}{j:Nat}{M:Nat->qT}{v:Wk}{k:Nat}{z:qT}(h:zct x l j M)(hd:l.Pairwise zdn)(d:l[j]?=some v)(f:qo x.sa v.leg x.san=k)(hl:k<x.san)(p:WkOk x v)(o:ZT (x.sa k) v (M k) 0 z):zct x l (j+1) (zfC M k z):=by
 have c:zab (x.sa k) v (M k) z:=by
  rcases o.on (h.good k hl) (h.comes d f hl p) with⟨_,h⟩|⟨h,_⟩
  ·exact h
  ·unfold In at h;omega
 have g:(x.sa k).id=v.leg:=by rw[← f];exact zaZ _ _ _ (by rw[f];exact hl)
 have i:j<l.length:=(List.getElem?_eq_some_iff.1 d).1;have b:l.drop j=v :: l.drop (j+1):=by
  rw[List.drop_eq_getElem_cons i]
  congr 1
  exact(List.getElem?_eq_some_iff.1 d).2
 refine⟨?_,zib h.good c,fun u n=>?_⟩
 ·rw[List.take_add_one,d]
  exact .snoc _ _ _ _ k z h.done f hl o
 ·refine(h.apt u (by rw[b];exact List.mem_cons_of_mem _ n)).after g c ?_
  have m:(l.drop j).Pairwise zdn:=hd.sublist (List.drop_sublist _ _);rw[b,List.pairwise_cons] at m;have a:=m.1 u n
  rcases a with a|a|a
  ·exact .inl (fun e=>a e.symm)
  ·exact .inr (.inl (fun e=>a e.symm))
  ·exact .inr (.inr (fun e=>a e.symm))
theorem zih (x y:Int)(w:World) :
  Calls Tryz.prog 155 #[int i64 x,int i64 y] w fun e w'=>e=.returned (int i64 (Qo x y))/\w'=w:=by
 obtain⟨V,g⟩:∃ V,V=Qo x y:=⟨_,rfl⟩;rw[← g];have c:=hI g;clear g
 by_cases h0:Q3 x y
 ·have k:decide (Q3 x y)=true:=decide_eq_true h0
  have d:=hI h0;have j:=hI h0.1;clear h0
  by_cases h1:600<x
  ·have l:decide (600<x)=true:=decide_eq_true h1
   have b:450<x:=by omega
   have h:decide (450<x)=true:=decide_eq_true b;have i:=j.out;unfold In at i;have m:IntKind.i64.wrap (x - 600)=x - 600:=by rw[IntKind.wrap_i64];omega
   have n:IntKind.i64.wrap (x - 600+99)=x - 600+99:=by rw[IntKind.wrap_i64];omega
   have hq:Int.tdiv (x - 600+99) 100=(x - 600+99) / 100:=by rw[Int.tdiv_eq_ediv_of_nonneg (by omega)]
   have o:IntKind.i64.wrap ((x - 600+99) / 100)=(x - 600+99) / 100:=by rw[IntKind.wrap_i64];omega
   have p:IntKind.i64.wrap (25*((x - 600+99) / 100))=25*((x - 600+99) / 100):=by rw[IntKind.wrap_i64];omega
   have q:IntKind.i64.wrap (90+25*((x - 600+99) / 100))=90+25*((x - 600+99) / 100):=by rw[IntKind.wrap_i64];omega
   have r:IntKind.i64.wrap (90+25*((x - 600+99) / 100)+30)=90+25*((x - 600+99) / 100)+30:=by rw[IntKind.wrap_i64];omega
   clear i
   by_cases h5:220<y
   ·have f:decide (220<y)=true:=decide_eq_true h5
    have a:Hid (V=90+25*((x - 600+99) / 100)+30):=by show V=90+25*((x - 600+99) / 100)+30;rw[c.out];unfold Qo;rw[if_pos d.out];simp only[if_pos h1,if_pos h5];(try omega)
    rw[a.out];go_enter Tryz.func155,Tryz.ntmps155;go_wp2_with (first|(go_at_call 90;refine sC (qE _ _ _) ?_))
    go_ret;exact⟨rfl,rfl⟩
   ·have f:decide (220<y)=false:=decide_eq_false h5
    have a:Hid (V=90+25*((x - 600+99) / 100)):=by show V=90+25*((x - 600+99) / 100);rw[c.out];unfold Qo;rw[if_pos d.out];simp only[if_pos h1,if_neg h5];(try omega)
    rw[a.out];go_enter Tryz.func155,Tryz.ntmps155;go_wp2_with (first|(go_at_call 90;refine sC (qE _ _ _) ?_))
    go_ret;exact⟨rfl,rfl⟩
  ·have l:decide (600<x)=false:=decide_eq_false h1
   by_cases b:450<x
   ·have h:decide (450<x)=true:=decide_eq_true b
    by_cases h5:220<y
    ·have f:decide (220<y)=true:=decide_eq_true h5
     have a:Hid (V=90+30):=by show V=90+30;rw[c.out];unfold Qo;rw[if_pos d.out];simp only[if_neg h1,if_pos b,if_pos h5];(try omega)
     rw[a.out];go_enter Tryz.func155,Tryz.ntmps155;go_wp2_with (first|(go_at_call 90;refine sC (qE _ _ _) ?_))
     go_ret;exact⟨rfl,rfl⟩
    ·have f:decide (220<y)=false:=decide_eq_false h5
     have a:Hid (V=90):=by show V=90;rw[c.out];unfold Qo;rw[if_pos d.out];simp only[if_neg h1,if_pos b,if_neg h5];(try omega)
     rw[a.out];go_enter Tryz.func155,Tryz.ntmps155;go_wp2_with (first|(go_at_call 90;refine sC (qE _ _ _) ?_))
     go_ret;exact⟨rfl,rfl⟩
   ·have h:decide (450<x)=false:=decide_eq_false b
    by_cases h5:220<y
    ·have f:decide (220<y)=true:=decide_eq_true h5
     have a:Hid (V=60+30):=by show V=60+30;rw[c.out];unfold Qo;rw[if_pos d.out];simp only[if_neg h1,if_neg b,if_pos h5];(try omega)
     rw[a.out];go_enter Tryz.func155,Tryz.ntmps155;go_wp2_with (first|(go_at_call 90;refine sC (qE _ _ _) ?_))
     go_ret;exact⟨rfl,rfl⟩
    ·have f:decide (220<y)=false:=decide_eq_false h5
     have a:Hid (V=60):=by show V=60;rw[c.out];unfold Qo;rw[if_pos d.out];simp only[if_neg h1,if_neg b,if_neg h5];(try omega)
     rw[a.out];go_enter Tryz.func155,Tryz.ntmps155;go_wp2_with (first|(go_at_call 90;refine sC (qE _ _ _) ?_))
     go_ret;exact⟨rfl,rfl⟩
 ·have k:decide (Q3 x y)=false:=decide_eq_false h0
  have a:Hid (V=0):=by rw[c.out];exact if_neg h0
  rw[a.out];clear h0;go_enter Tryz.func155,Tryz.ntmps155;go_wp2_with (first|(go_at_call 90;refine sC (qE _ _ _) ?_))
  go_ret;exact⟨rfl,rfl⟩
theorem zeW (cl:Int)(all:Bool)(be:Int)(w:World) :
  Calls Tryz.prog 156 #[int i64 cl,.bool all,int i64 be] w fun e w'=>e=.returned (int i64 (ZY cl all be))/\Below w.heap.size w w':=by
 obtain⟨V,g⟩:∃ V,V=ZY cl all be:=⟨_,rfl⟩;rw[← g];have b:=hI g;clear g
 by_cases h1:In cl 1 3
 ·have k:decide (In cl 1 3)=true:=decide_eq_true h1
  have c:=hI h1
  cases all with
  | true =>
   by_cases h2:be=0
   ·subst h2
    have f:cl=1∨cl=2∨cl=3:=by unfold In at h1;omega
    clear h1
    rcases f with rfl|rfl|rfl
    ·have a:Hid (V=90):=by show V=90;rw[b.out];exact if_pos ⟨c.out,.inl ⟨rfl,rfl⟩⟩
     rw[a.out];go_enter Tryz.func156,Tryz.ntmps156;go_wp2_with (first|(go_at_call 19;refine sC (zx _ _ _ _) ?_))
     go_ret;exact⟨rfl,zr bZ _⟩
    ·have a:Hid (V=150):=by show V=150;rw[b.out];exact if_pos ⟨c.out,.inl ⟨rfl,rfl⟩⟩
     rw[a.out];go_enter Tryz.func156,Tryz.ntmps156;go_wp2_with (first|(go_at_call 19;refine sC (zx _ _ _ _) ?_))
     go_ret;exact⟨rfl,zr bZ _⟩
    ·have a:Hid (V=240):=by show V=240;rw[b.out];exact if_pos ⟨c.out,.inl ⟨rfl,rfl⟩⟩
     rw[a.out];go_enter Tryz.func156,Tryz.ntmps156;go_wp2_with (first|(go_at_call 19;refine sC (zx _ _ _ _) ?_))
     go_ret;exact⟨rfl,zr bZ _⟩
   ·have i:(be == 0)=false:=by simpa using h2
    have e3:(be != 0)=true:=by simpa using h2
    have a:Hid (V=0):=by rw[b.out];exact if_neg (fun h=>by rcases h.2 with h|h;exact h2 h.2;cases h.1)
    rw[a.out];clear h1 h2;go_enter Tryz.func156,Tryz.ntmps156;go_wp2_with (first|(go_at_call 19;refine sC (zx _ _ _ _) ?_))
    go_ret;exact⟨rfl,bZ⟩
  | false =>
   by_cases h2:In be 1 4
   ·have i:decide (In be 1 4)=true:=decide_eq_true h2
    have d:=hI h2;have f:cl=1∨cl=2∨cl=3:=by unfold In at h1;omega
    have h4:1<=be/\be<=4:=h2;clear h1 h2
    rcases f with rfl|rfl|rfl
    ·have a:Hid (V=30*be):=by show V=30*be;rw[b.out];unfold ZY;rw[if_pos ⟨c.out,.inr ⟨rfl,d.out⟩⟩];rfl
     rw[a.out];have j:IntKind.i64.wrap (30*be)=30*be:=by rw[IntKind.wrap_i64];omega
     go_enter Tryz.func156,Tryz.ntmps156;go_wp2_with (first|(go_at_call 19;refine sC (zx _ _ _ _) ?_))
     go_ret;exact⟨rfl,zr bZ _⟩
    ·have a:Hid (V=50*be):=by show V=50*be;rw[b.out];unfold ZY;rw[if_pos ⟨c.out,.inr ⟨rfl,d.out⟩⟩];rfl
     rw[a.out];have j:IntKind.i64.wrap (50*be)=50*be:=by rw[IntKind.wrap_i64];omega
     go_enter Tryz.func156,Tryz.ntmps156;go_wp2_with (first|(go_at_call 19;refine sC (zx _ _ _ _) ?_))
     go_ret;exact⟨rfl,zr bZ _⟩
    ·have a:Hid (V=80*be):=by show V=80*be;rw[b.out];unfold ZY;rw[if_pos ⟨c.out,.inr ⟨rfl,d.out⟩⟩];rfl
     rw[a.out];have j:IntKind.i64.wrap (80*be)=80*be:=by rw[IntKind.wrap_i64];omega
     go_enter Tryz.func156,Tryz.ntmps156;go_wp2_with (first|(go_at_call 19;refine sC (zx _ _ _ _) ?_))
     go_ret;exact⟨rfl,zr bZ _⟩
   ·have i:decide (In be 1 4)=false:=decide_eq_false h2
    have a:Hid (V=0):=by rw[b.out];exact if_neg (fun h=>by rcases h.2 with h|h;cases h.1;exact h2 h.2)
    rw[a.out];clear h1 h2;go_enter Tryz.func156,Tryz.ntmps156;go_wp2_with (first|(go_at_call 19;refine sC (zx _ _ _ _) ?_))
    go_ret;exact⟨rfl,bZ⟩
 ·have k:decide (In cl 1 3)=false:=decide_eq_false h1
  have a:Hid (V=0):=by rw[b.out];exact if_neg (fun h=>h1 h.1)
  rw[a.out];clear h1
  cases all with
  | true =>
   go_enter Tryz.func156,Tryz.ntmps156;go_wp2_with (first|(go_at_call 19;refine sC (zx _ _ _ _) ?_))
   go_ret;exact⟨rfl,bZ⟩
  | false =>
   go_enter Tryz.func156,Tryz.ntmps156;go_wp2_with (first|(go_at_call 19;refine sC (zx _ _ _ _) ?_))
   go_ret;exact⟨rfl,bZ⟩
end Go.Proofs.YtfallpinmhbemaaGreatDoor

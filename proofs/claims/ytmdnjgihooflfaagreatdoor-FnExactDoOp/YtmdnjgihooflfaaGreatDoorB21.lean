/-
  OWN TEXT: SpecFt, KitDo, PlainDx, DoneI, OnI, HoldI, KitMRow.
-/
import Derived.Deep.LoopGhost
import Derived.Deep.DeepCutAuto
import Derived.Test.YtmdnjgihooflfaaGreatDoorB19
import Derived.Test.YtmdnjgihooflfaaGreatDoorB20
namespace Go.Proofs.YtmdnjgihooflfaaGreatDoor
open Go.RowKit
open Go.Value (int)
open Go.IntKind (i64)
open Tryz
set_option maxHeartbeats 64000000
set_option maxRecDepth 100000
def Qk (N:Nat)(x:Off)(y:OpD):Prop:=(zJ y.kind/\¬ zad N x.sa y.lgn y.lg)∨(y.kind=9/\zW x.sa (y.lg 0) N=N)
def ZT (N R m:Nat)(x:Off)(y:OpD)(a:Int):Prop :=
 (¬ zac y->a=1)/\(zac y->Qk N x y->a=2)/\(zac y->¬ Qk N x y->In y.kind 4 8->zcV R m x y a)/\(zac y->¬ Qk N x y->¬ In y.kind 4 8->a=0)
theorem zmb (f I D t:Option Addr)(N M R n K J o m:Nat)(x:Off)(y:OpD)(w:World)(hN:N<=1048576)(hR:R<=1048576)(hl:y.lgn<=1048576)(ho:y.own.size<=1000000000000000)(hz:qB w f N x.sa)(a3:qO w D R x.bk)(a1:OpD.Is w [y.kind,y.own,y.name,(t,y.lgn,o),y.pe,y.len,y.hei,y.cl,y.all,y.be,y.unt,y.now] y)(hm:zac y->In y.kind 4 8->y.name=(m:Int)+1/\m<=1048576) :
  Calls prog 90 #[.agg #[(f,N,n),(I,M,K),(D,R,J)],.agg (y,t,o)] w λe w'=>(∃ A:Int,e=.returned A/\ZT N R m x y A)/\Below w.heap.size w w':=by
 have HM:=hI hm;clear hm;have X:=hI a3;have HZ:=hI hz;have a8:=hI a1;have a2:Hid (zT w t y.lgn y.lg):=by
  obtain⟨a,c,e,h,_⟩:=a1;simp only[List.cons.injEq,Value.slice.injEq] at e;obtain⟨_,_,_,⟨rfl,_,_⟩,_⟩:=e;exact h
 clear a3 hz a1;have F:Below _ w ((w.alloc (.cells #[(f,N,n),(I,M,K),(D,R,J)] 38)).alloc (.cells (y,t,o) 47)):=zk (zk bZ _) _;have bF:=zoQ F;have bO:=zoR F;go_enter func90,ntmps90;go_upto_region 1 with fail;generalize (w.alloc _).alloc _=V at F bF bO ⊢;obtain⟨o0,o1,o2,o3,o4,o5,o6,o7,o8,o9,b0,b1⟩:=zeW bO;obtain⟨q,hq⟩:∃ q,q=decide (zac y):=⟨_,rfl⟩;have cg:=znD _ y V ho (a8.below F);rw[← hq] at cg;have HQ:Hid (q=true↔zac y):=by rw[hq];exact decide_eq_true_iff
 clear hq;go_wp2_with fail;refine cg.mono ?_;clear cg;rintro e G ⟨rfl,S⟩;have C:=zb bO S;have E:=zb bF S;have s:=hI (ze F S);clear o0 o1 o2 o3 o4 o5 o6 o7 o8 o9 b0 b1 bO bF F S
 cases q with
 | false =>
  have U:¬ _:=λh=>by have:=HQ.2 h;cases this
  have u:Hid (ZT N R m x y 1):=⟨λ_=>rfl,λh=>absurd h U,λh=>absurd h U,λh=>absurd h U⟩
  clear U;go_wp2;go_ret;exact⟨⟨1,rfl,u⟩,s⟩
 | true =>
  have l:Hid (zac y):=by first|exact HQ.1 rfl|exact HQ.1 trivial
  have o0:=za C 0 _ rfl;have o3:=za C 3 _ rfl;have f0:=za E 0 _ rfl
  by_cases hL:zJ y.kind
  ·have dL:=Jd hL
   have k9:(y.kind == 9)=false:=by rw[beq_eq_false_iff_ne];unfold zJ at hL;omega
   go_wp2_with (go_at_call 160;refine sC (zV _ _) ?_);refine(zkO f t N _ n o _ _ _ hN hl (HZ.below s) (a2.below s)).mono ?_;rintro e w2 ⟨⟨r,rfl,hr⟩,T⟩;have d:=zb C T;have i:=zb E T;have k:=hI (ze s T);have Y:=hI hr;clear o0 o3 f0 C E s T hr dL
   cases r with
   | false =>
    have u:Hid (ZT N R m x y 2):=by
     have Q:Qk N x y:=.inl ⟨hL,λh=>by have:=Y.2 h;cases this⟩
     exact⟨λh=>absurd l h,λ_ _=>rfl,λ_ h=>absurd Q h,λ_ h=>absurd Q h⟩
    clear hL;go_wp2;go_ret;exact⟨⟨2,rfl,u⟩,k⟩
   | true =>
    have v:Hid (¬ Qk N x y):=by
     rintro(⟨_,h⟩|⟨h,_⟩)
     ·exact h (by first|exact Y.1 rfl|exact Y.1 trivial)
     ·unfold zJ at hL;omega
    clear hL;have u0:∀ h:zn w2,h.val.cell? _=some (.int _ _):=λh=>za (zb d h.bel) 0 _ rfl
    have u3:∀ h:zn w2,h.val.cell? _=some (.slice t _ o):=λh=>za (zb d h.bel) 3 _ rfl
    have v0:∀ h:zn w2,h.val.cell? _=some (f,N,n):=λh=>za (zb i h.bel) 0 _ rfl
    go_upto_region 5 with fail;refine zh (by kernel_rfl) (by kernel_rfl) ?_
    repeat(first|go_big_quiet_skip|(go_big_quiet_want;go_big_quiet_op;first|go_big_quiet_on))
    refine Jl ?_;rintro _ ⟨g,rfl⟩;have j:=zb d g.bel;have p:=zb i g.bel;have b:=hI (ze k g.bel);generalize g.val=w3 at j p b ⊢;clear u0 u3 v0 d i k
    by_cases hn:In y.kind 4 8
    ·have L:=Jd hn
     obtain⟨p0,p1,p2,p3,p4,p5,p6,p7,p8,p9,a5,a6⟩:=zeW j;obtain⟨s0,s1,s2⟩:=ce3 p;have z:=hI (HM l hn);go_wp2_with (go_at_call 162;refine sC (zO _ _) ?_);refine(zbH f I D t N M R n K J o m x y w3 hR z.2 z.1 (X.below b)).mono ?_;rintro e w4 ⟨⟨A,rfl,B⟩,O⟩;have u:Hid (ZT N R m x y _):=⟨λh=>absurd l h,λ_ h=>absurd h v,λ_ _ _=>B,λ_ _ h=>absurd hn h⟩
     have H:=hI (ze b O);clear B;go_wp2;go_ret;exact⟨⟨_,rfl,u⟩,H⟩
    ·have L:=Jc hn
     have p0:=za j 0 _ rfl;have u:Hid (ZT N R m x y 0):=⟨λh=>absurd l h,λ_ h=>absurd h v,λ_ _ h=>absurd h hn,λ_ _ _=>rfl⟩
     go_wp2_with (go_at_call 162;refine sC (zO _ _) ?_);go_ret;exact⟨⟨0,rfl,u⟩,b⟩
  ·have dL:=Jc hL
   have d:=C;have i:=E;have k:=s
   by_cases h9:y.kind=9
   ·have a4:=by
     have h:=l.2.2.2.1;unfold qi at h;rw[Je hL,Jf h9] at h;exact h
    have k9:(y.kind == 9)=true:=by rw[beq_iff_eq];exact h9
    have H9:=hI h9;obtain⟨gb,go,a9,a0⟩:=a2 0 (by omega)
    subst a9;have i0:(0:Int)<(y.lgn:Int):=by omega
    have b3:0<y.lgn:=by omega
    have z0:∀ h:zn G,h.val.cell? ⟨gb,go,_⟩=_:=λh=>((ze s h.bel).cell (Ja w _ a0)).trans a0
    clear C E s a0;have a7:=hI hL;have b2:=hI a4;clear hL h9 a4;obtain⟨fi,Z⟩:∃ fi,fi=zW x.sa (y.lg 0) N:=⟨_,rfl⟩;have P:=hI Z
    by_cases hfx:fi<N
    ·have v:Hid (¬ Qk N x y):=by
      rintro(⟨h,_⟩|⟨_,h⟩)
      ·exact a7 h
      ·have e:=P;omega
     have W:Hid (∀ g:zn G,_):=λg=>zf ((Q9 f N n _ (y.lg 0) _ hN (HZ.below (ze k g.bel))).mono λe w'' ⟨h,Q⟩=>by
      rw[← P.out] at h
      rcases h with⟨_,h⟩|⟨h,_⟩
      ·exact⟨h,Q⟩
      ·omega)
     have d9:decide ((fi:Int)<0)=false:=Jc (by omega)
     clear Z;go_upto_region 5 with(go_at_call 160;refine sC (zV _ _) ?_);clear o0 o3 f0 dL;have u0:∀ h:zn G,h.val.cell? _=some (.int _ _):=λh=>za (zb d h.bel) 0 _ rfl
     have u3:∀ h:zn G,h.val.cell? _=some (.slice _ _ o):=λh=>za (zb d h.bel) 3 _ rfl
     have v0:∀ h:zn G,h.val.cell? _=some (f,N,n):=λh=>za (zb i h.bel) 0 _ rfl
     refine zh (by kernel_rfl) (by kernel_rfl) ?_
     repeat(first|go_big_quiet_skip|(go_big_quiet_want;go_big_quiet_op;first|go_big_quiet_on|(apply Jg;refine⟨λg=>?_,?_⟩;(focus(go_at_call 161;exact W g));go_big_quiet_on)))
     refine Jl ?_;rintro _ ⟨g,rfl⟩;have j:=zb d g.bel;have p:=zb i g.bel;have b:=hI (ze k g.bel);generalize g.val=w3 at j p b ⊢;clear u0 u3 v0 z0 d i k
     by_cases hn:In y.kind 4 8
     ·have L:=Jd hn
      obtain⟨p0,p1,p2,p3,p4,p5,p6,p7,p8,p9,a5,a6⟩:=zeW j;obtain⟨s0,s1,s2⟩:=ce3 p;have z:=hI (HM l hn);go_wp2_with (go_at_call 162;refine sC (zO _ _) ?_);refine(zbH f I D _ N M R n K J o m x y w3 hR z.2 z.1 (X.below b)).mono ?_;rintro e w4 ⟨⟨A,rfl,B⟩,O⟩;have u:Hid (ZT N R m x y _):=⟨λh=>absurd l h,λ_ h=>absurd h v,λ_ _ _=>B,λ_ _ h=>absurd hn h⟩
      have H:=hI (ze b O);clear B;go_wp2;go_ret;exact⟨⟨_,rfl,u⟩,H⟩
     ·have L:=Jc hn
      have p0:=za j 0 _ rfl;have u:Hid (ZT N R m x y 0):=⟨λh=>absurd l h,λ_ h=>absurd h v,λ_ _ h=>absurd h hn,λ_ _ _=>rfl⟩
      go_wp2_with (go_at_call 162;refine sC (zO _ _) ?_);go_ret;exact⟨⟨0,rfl,u⟩,b⟩
    ·have u:Hid (ZT N R m x y 2):=by
      have Q:Qk N x y:=.inr ⟨H9,by
       have e:=P;have h2:=zcm x.sa (y.lg 0) N
       omega⟩
      exact⟨λh=>absurd l h,λ_ _=>rfl,λ_ h=>absurd Q h,λ_ h=>absurd Q h⟩
     have W:Hid (∀ g:zn G,_):=λg=>zf ((Q9 f N n _ (y.lg 0) _ hN (HZ.below (ze k g.bel))).mono λe w'' ⟨h,Q⟩=>by
      rw[← P.out] at h
      rcases h with⟨h,_⟩|⟨_,h⟩
      ·omega
      ·exact⟨h,Q⟩)
     clear Z;go_upto_region 5 with(go_at_call 160;refine sC (zV _ _) ?_);clear o0 o3 f0 dL;have u0:∀ h:zn G,h.val.cell? _=some (.int _ _):=λh=>za (zb d h.bel) 0 _ rfl
     have u3:∀ h:zn G,h.val.cell? _=some (.slice _ _ o):=λh=>za (zb d h.bel) 3 _ rfl
     have v0:∀ h:zn G,h.val.cell? _=some (f,N,n):=λh=>za (zb i h.bel) 0 _ rfl
     refine zh (by kernel_rfl) (by kernel_rfl) ?_
     repeat(first|go_big_quiet_skip|(go_big_quiet_want;go_big_quiet_op;first|go_big_quiet_on|(apply Jg;refine⟨λg=>?_,?_⟩;(focus(go_at_call 161;exact W g));go_big_quiet_on)))
     refine Jl ?_;rintro _ ⟨g,rfl⟩;have j:=zb d g.bel;have p:=zb i g.bel;have b:=hI (ze k g.bel);generalize g.val=w3 at j p b ⊢;clear u0 u3 v0 z0 d i k;go_wp2;go_ret;exact⟨⟨2,rfl,u⟩,b⟩
   ·have k9:(y.kind == 9)=false:=by rw[beq_eq_false_iff_ne];exact h9
    have v:Hid (¬ Qk N x y):=by
     rintro(⟨h,_⟩|⟨h,_⟩)
     ·exact hL h
     ·exact h9 h
    clear hL h9 C E s;go_upto_region 5 with(go_at_call 160;refine sC (zV _ _) ?_);clear o0 o3 f0 dL;have u0:∀ h:zn G,h.val.cell? _=some (.int _ _):=λh=>za (zb d h.bel) 0 _ rfl
    have u3:∀ h:zn G,h.val.cell? _=some (.slice t _ o):=λh=>za (zb d h.bel) 3 _ rfl
    have v0:∀ h:zn G,h.val.cell? _=some (f,N,n):=λh=>za (zb i h.bel) 0 _ rfl
    refine zh (by kernel_rfl) (by kernel_rfl) ?_
    repeat(first|go_big_quiet_skip|(go_big_quiet_want;go_big_quiet_op;first|go_big_quiet_on))
    refine Jl ?_;rintro _ ⟨g,rfl⟩;have j:=zb d g.bel;have p:=zb i g.bel;have b:=hI (ze k g.bel);generalize g.val=w3 at j p b ⊢;clear u0 u3 v0 d i k
    by_cases hn:In y.kind 4 8
    ·have L:=Jd hn
     obtain⟨p0,p1,p2,p3,p4,p5,p6,p7,p8,p9,a5,a6⟩:=zeW j;obtain⟨s0,s1,s2⟩:=ce3 p;have z:=hI (HM l hn);go_wp2_with (go_at_call 162;refine sC (zO _ _) ?_);refine(zbH f I D t N M R n K J o m x y w3 hR z.2 z.1 (X.below b)).mono ?_;rintro e w4 ⟨⟨A,rfl,B⟩,O⟩;have u:Hid (ZT N R m x y _):=⟨λh=>absurd l h,λ_ h=>absurd h v,λ_ _ _=>B,λ_ _ h=>absurd hn h⟩
     have H:=hI (ze b O);clear B;go_wp2;go_ret;exact⟨⟨_,rfl,u⟩,H⟩
    ·have L:=Jc hn
     have p0:=za j 0 _ rfl;have u:Hid (ZT N R m x y 0):=⟨λh=>absurd l h,λ_ h=>absurd h v,λ_ _ h=>absurd h hn,λ_ _ _=>rfl⟩
     go_wp2_with (go_at_call 162;refine sC (zO _ _) ?_);go_ret;exact⟨⟨0,rfl,u⟩,b⟩
section
open Go.RowKit
theorem zbi (L:Nat->zY)(k:Nat)(x:zY):zht L k x k=x:=Jf rfl
theorem zbj (L:Nat->zY)(k:Nat)(x:zY){j:Nat}(h:j≠k):zht L k x j=L j:=Je h
theorem setL_same (L:Nat->zY)(k:Nat):zht L k (L k)=L:=by
 funext j
 unfold zht
 by_cases c:j=k
 ·subst c;rw[Jf rfl]
 ·rw[Je c]
theorem zog.put {A:Nat->Value}{N k lim:Nat}{a:Value}(h:zog N A)(h1:∀ i,i<N->∀ b,(A i).ownBlock=some b->b<lim)(h2:∀ b,a.ownBlock=some b->lim<=b):zog N (atV A k a):=λi j f g e b d c=>by
 by_cases ei:i=k
 ·subst ei
  rw[qu] at d;rw[qf _ _ _ _ (λh=>e h.symm)] at c
  have:=h1 j g b c;have:=h2 b d
  omega
 ·rw[qf _ _ _ _ ei] at d
  by_cases ej:j=k
  ·subst ej
   rw[qu] at c;have:=h1 i f b d;have:=h2 b c
   omega
  ·rw[qf _ _ _ _ ej] at c
   exact h i j f g e b d c
section
variable {w w' : World} {base g c k N n lim : Nat} {S : Nat -> zY} {A B C : Nat -> Value} {u : Value}
theorem znE (h:w.ownsRow base 145 3 (some (g,0),N,c) N (zdZ A B C N)):(w.setCell (g,k*3+0) u).ownsRow base 145 3 (some (g,0),N,c) N (zdZ (atV A k u) B C N):=by
 refine qR (zL h _ u) (λj hj=>?_)
 by_cases h2:j=k*3+0
 ·subst h2
  rw[Jf rfl,zC 3 _ k 0 (by decide)]
  unfold ldC;rw[qu]
  rfl
 ·rw[Je h2]
  unfold zZ ldC
  by_cases e:j / 3=k
  ·have a:j % 3=1∨j % 3=2:=by omega
   rcases a with a|a <;> rw[a] <;> rfl
  ·rw[qf _ _ _ _ e]
theorem znF (h:w.ownsRow base 145 3 (some (g,0),N,c) N (zdZ A B C N)):(w.setCell (g,k*3+1) u).ownsRow base 145 3 (some (g,0),N,c) N (zdZ A (atV B k u) C N):=by
 refine qR (zL h _ u) (λj hj=>?_)
 by_cases h2:j=k*3+1
 ·subst h2
  rw[Jf rfl,zC 3 _ k 1 (by decide)]
  unfold ldC;rw[qu]
  rfl
 ·rw[Je h2]
  unfold zZ ldC
  by_cases e:j / 3=k
  ·have a:j % 3=0∨j % 3=2:=by omega
   rcases a with a|a <;> rw[a] <;> rfl
  ·rw[qf _ _ _ _ e]
theorem znG (h:w.ownsRow base 145 3 (some (g,0),N,c) N (zdZ A B C N)):(w.setCell (g,k*3+2) u).ownsRow base 145 3 (some (g,0),N,c) N (zdZ A B (atV C k u) N):=by
 refine qR (zL h _ u) (λj hj=>?_)
 by_cases h2:j=k*3+2
 ·subst h2
  rw[Jf rfl,zC 3 _ k 2 (by decide)]
  unfold ldC;rw[qu]
  rfl
 ·rw[Je h2]
  unfold zZ ldC
  by_cases e:j / 3=k
  ·have a:j % 3=0∨j % 3=1:=by omega
   rcases a with a|a <;> rw[a] <;> rfl
  ·rw[qf _ _ _ _ e]
theorem qC.putSt {T:Nat->Zp}(h:qC w base (some (g,0),N,c) N S A B C)(f:∀ i,i<N->∀ b,(A i).ownBlock=some b->b<lim)(o:w.ownsRow lim 220 4 u n (zy T n))(j:base<=lim) :
  qC (w.setCell (g,k*3+0) u) base (some (g,0),N,c) N (zht S k { S k with stn:=n,st:=T }) (atV A k u) B C:=by
 have r:zx w (w.setCell _ u) _:=(zx.refl w (λx=>x=g)).set (a:=(g,k*3+0)) rfl _
 have far:∀ {t sz n:Nat} {v} {xs},_->145≠t->(w.setCell _ u).ownsRow base t sz v n xs:=λp s=>r.own p (λq l m=>zI h.row p s q (by rw[m];rfl) l)
 refine⟨znE h.row,λi d=>?_,λi d=>?_,λi d=>?_,h.far.1.put f (λb e=>(o.lt b e).1),h.far.2.1,h.far.2.2⟩
 ·by_cases e:i=k
  ·subst e;rw[qu,zbi];exact far (zu o j) (by decide)
  ·rw[qf _ _ _ _ e,zbj _ _ _ e];exact far (h.st i d) (by decide)
 ·by_cases e:i=k
  ·subst e;rw[zbi];exact far (h.ro i d) (by decide)
  ·rw[zbj _ _ _ e];exact far (h.ro i d) (by decide)
 ·by_cases e:i=k
  ·subst e;rw[zbi];exact far (h.se i d) (by decide)
  ·rw[zbj _ _ _ e];exact far (h.se i d) (by decide)
theorem qC.putRo {T:Nat->qN}(h:qC w base (some (g,0),N,c) N S A B C)(f:∀ i,i<N->∀ b,(B i).ownBlock=some b->b<lim)(o:w.ownsRow lim 228 4 u n (zw T n))(j:base<=lim) :
  qC (w.setCell (g,k*3+1) u) base (some (g,0),N,c) N (zht S k { S k with ron:=n,ro:=T }) A (atV B k u) C:=by
 have r:zx w (w.setCell _ u) _:=(zx.refl w (λx=>x=g)).set (a:=(g,k*3+1)) rfl _
 have far:∀ {t sz n:Nat} {v} {xs},_->145≠t->(w.setCell _ u).ownsRow base t sz v n xs:=λp s=>r.own p (λq l m=>zI h.row p s q (by rw[m];rfl) l)
 refine⟨znF h.row,λi d=>?_,λi d=>?_,λi d=>?_,h.far.1,h.far.2.1.put f (λb e=>(o.lt b e).1),h.far.2.2⟩
 ·by_cases e:i=k
  ·subst e;rw[zbi];exact far (h.st i d) (by decide)
  ·rw[zbj _ _ _ e];exact far (h.st i d) (by decide)
 ·by_cases e:i=k
  ·subst e;rw[qu,zbi];exact far (zu o j) (by decide)
  ·rw[qf _ _ _ _ e,zbj _ _ _ e];exact far (h.ro i d) (by decide)
 ·by_cases e:i=k
  ·subst e;rw[zbi];exact far (h.se i d) (by decide)
  ·rw[zbj _ _ _ e];exact far (h.se i d) (by decide)
theorem qC.putSe {T:Nat->Qe}(h:qC w base (some (g,0),N,c) N S A B C)(f:∀ i,i<N->∀ b,(C i).ownBlock=some b->b<lim)(o:w.ownsRow lim 234 2 u n (zB T n))(j:base<=lim) :
  qC (w.setCell (g,k*3+2) u) base (some (g,0),N,c) N (zht S k { S k with sen:=n,se:=T }) A B (atV C k u):=by
 have r:zx w (w.setCell _ u) _:=(zx.refl w (λx=>x=g)).set (a:=(g,k*3+2)) rfl _
 have far:∀ {t sz n:Nat} {v} {xs},_->145≠t->(w.setCell _ u).ownsRow base t sz v n xs:=λp s=>r.own p (λq l m=>zI h.row p s q (by rw[m];rfl) l)
 refine⟨znG h.row,λi d=>?_,λi d=>?_,λi d=>?_,h.far.1,h.far.2.1,h.far.2.2.put f (λb e=>(o.lt b e).1)⟩
 ·by_cases e:i=k
  ·subst e;rw[zbi];exact far (h.st i d) (by decide)
  ·rw[zbj _ _ _ e];exact far (h.st i d) (by decide)
 ·by_cases e:i=k
  ·subst e;rw[zbi];exact far (h.ro i d) (by decide)
  ·rw[zbj _ _ _ e];exact far (h.ro i d) (by decide)
 ·by_cases e:i=k
  ·subst e;rw[qu,zbi];exact far (zu o j) (by decide)
  ·rw[qf _ _ _ _ e,zbj _ _ _ e];exact far (h.se i d) (by decide)
end
section
variable {w w' : World} {base g c k lim n n1 n2 n3 : Nat} {v1 v3 u : Value} {x : Off} {L C A B D E : Nat -> Value}
theorem zF.putSt {T:Nat->Zp}(h:zF w base v1 (some (g,0),n2,c) v3 n1 n2 n3 x L C A B D E)(d:∀ i,i<n2->∀ b,(A i).ownBlock=some b->b<lim)(m:w.ownsRow lim 220 4 u n (zy T n))(j:base<=lim) :
  zF (w.setCell (g,k*3+0) u) base v1 (some (g,0),n2,c) v3 n1 n2 n3 { x with ld:=zht x.ld k { x.ld k with stn:=n,st:=T } } L C (atV A k u) B D E:=by
 have l:zx w (w.setCell _ u) _:=(zx.refl w (λx=>x=g)).set (a:=(g,k*3+0)) rfl _
 exact⟨h.sa.other l (λq e=>by obtain⟨cs,f⟩:=zA h.ld.row q (by rw[show _ from e];rfl);exact⟨cs,_,f,by decide,by decide,by decide⟩),h.ld.putSt d m j,h.bk.other l (λq e=>by obtain⟨cs,f⟩:=zA h.ld.row q (by rw[show _ from e];rfl);exact⟨cs,_,f,by decide,by decide⟩)⟩
theorem zF.putRo {T:Nat->qN}(h:zF w base v1 (some (g,0),n2,c) v3 n1 n2 n3 x L C A B D E)(d:∀ i,i<n2->∀ b,(B i).ownBlock=some b->b<lim)(m:w.ownsRow lim 228 4 u n (zw T n))(j:base<=lim) :
  zF (w.setCell (g,k*3+1) u) base v1 (some (g,0),n2,c) v3 n1 n2 n3 { x with ld:=zht x.ld k { x.ld k with ron:=n,ro:=T } } L C A (atV B k u) D E:=by
 have l:zx w (w.setCell _ u) _:=(zx.refl w (λx=>x=g)).set (a:=(g,k*3+1)) rfl _
 exact⟨h.sa.other l (λq e=>by obtain⟨cs,f⟩:=zA h.ld.row q (by rw[show _ from e];rfl);exact⟨cs,_,f,by decide,by decide,by decide⟩),h.ld.putRo d m j,h.bk.other l (λq e=>by obtain⟨cs,f⟩:=zA h.ld.row q (by rw[show _ from e];rfl);exact⟨cs,_,f,by decide,by decide⟩)⟩
theorem zF.putSe {T:Nat->Qe}(h:zF w base v1 (some (g,0),n2,c) v3 n1 n2 n3 x L C A B D E)(d:∀ i,i<n2->∀ b,(D i).ownBlock=some b->b<lim)(m:w.ownsRow lim 234 2 u n (zB T n))(j:base<=lim) :
  zF (w.setCell (g,k*3+2) u) base v1 (some (g,0),n2,c) v3 n1 n2 n3 { x with ld:=zht x.ld k { x.ld k with sen:=n,se:=T } } L C A B (atV D k u) E:=by
 have l:zx w (w.setCell _ u) _:=(zx.refl w (λx=>x=g)).set (a:=(g,k*3+2)) rfl _
 exact⟨h.sa.other l (λq e=>by obtain⟨cs,f⟩:=zA h.ld.row q (by rw[show _ from e];rfl);exact⟨cs,_,f,by decide,by decide,by decide⟩),h.ld.putSe d m j,h.bk.other l (λq e=>by obtain⟨cs,f⟩:=zA h.ld.row q (by rw[show _ from e];rfl);exact⟨cs,_,f,by decide,by decide⟩)⟩
end
end
section
open Go.RowKit
variable{N n m j k:Nat}{G:Nat->Int}{x:Off}{y:OpD}
theorem znH {S:Nat->Zj}(a:QJ N S)(h:zad N S n G):∀ d j,j+d+1<n->(S (zW S (G j) N)).arr<=(S (zW S (G (j+d+1)) N)).dep:=by
 intro d
 induction d with
 | zero =>
  intro j b;have:=(h.2.2 (j+1) (by omega)).2 (by omega)
  simpa using this.2
 | succ d ih =>
  intro j b;have h1:=ih j (by omega)
  have h2:=((h.2.2 _ (by omega)).2 (by omega)).2
  have h3:=(a.2 _ (h.2.2 (j+d+1) (by omega)).1).1
  have e:j+(d+1)+1 - 1=j+d+1:=by omega
  rw[e] at h2;have h4:=h3.2.2.2.2.2.1
  omega
theorem zcW {S:Nat->Zj}(a:QJ N S)(h:zad N S n G):∀ i,i<n->∀ j,j<i->G j≠G i:=λi b j hj e=>by
 obtain⟨d,rfl⟩:∃ d,i=j+d+1:=⟨i - j - 1,by omega⟩
 have h1:=znH a h d j b;rw[← e] at h1;have h3:=(a.2 _ (h.2.2 j (by omega)).1).1
 have h4:=h3.2.2.2.2.2.1
 omega
def WkOk (x:Off)(v:Wk):Prop:=v.res<3/\zW x.sa v.leg x.san<x.san/\(v.goes=false->In v.who 1 9999/\qI v.p/\zaI v.p.len v.p.cl v.res=true)
def ZZ (x:Off)(y:OpD)(m:Nat):Prop:=zac y/\¬ Qk x.san x y/\(In y.kind 4 8->y.name=(m:Int)+1/\m<x.bkn/\¬ zbG (x.bk m) y)
theorem ZZ.legs (h:ZZ x y m)(a:zJ y.kind):zad x.san x.sa y.lgn y.lg:=by
 by_cases c:zad x.san x.sa y.lgn y.lg
 ·exact c
 ·exact absurd (.inl ⟨a,c⟩) h.2.1
theorem ZZ.party (h:ZZ x y m)(a:zJ y.kind):qI ⟨y.pe,y.len,y.hei,y.cl,y.all,y.be⟩:=by
 have:=h.1.2.2.2.2.1;unfold qA at this;rw[Jf a] at this;exact this
theorem zaR {k:Int}(h:Qt k):In k 4 8:=by
 unfold Qt at h;unfold In
 omega
theorem zeK {b:Int}(h:Zk x)(g:ZZ x y m)(q:In b 1 9999)(p:∀ i,i<x.bkn->(x.bk i).who≠b) :
  (qk x b y m).Pairwise zdu/\∀ v ∈ qk x b y m,Apt x x.ld v/\WkOk x v:=by
 have j:=h.1;have f:_->_/\zez _/\_:=λr=>by
  obtain⟨_,h2,h3⟩:=g.2.2 (zaR r);refine⟨h2,?_,(h.2.2.2.2.1 m h2).2.2.2.1⟩
  by_cases c:zez (x.bk m)
  ·exact c
  ·exact absurd (.inl c) h3
 constructor
 ·unfold qk
  by_cases h1:Qt y.kind
  ·obtain⟨l,o,d⟩:=f h1
   rw[Jf h1]
   by_cases h2:zJ y.kind
   ·rw[Jf h2]
    exact zkt (zcW j d) (zcW j (g.legs h2)) (p m l)
   ·rw[Je h2,List.append_nil]
    exact zbc _ _ _ _ _ (zcW j d)
  ·rw[Je h1,List.nil_append]
   by_cases h2:zJ y.kind
   ·rw[Jf h2]
    exact zbc _ _ _ _ _ (zcW j (g.legs h2))
   ·rw[Je h2]
    exact List.Pairwise.nil
 ·intro v a
  unfold qk at a
  rcases List.mem_append.1 a with a|a
  ·by_cases h1:Qt y.kind
   ·rw[Jf h1] at a
    obtain⟨l,o,d⟩:=f h1;refine⟨h.apt_goes l o rfl rfl a,?_⟩;obtain⟨⟨i,k,e⟩,hr,n,_⟩:=zbb a;exact⟨hr,by rw[e];exact(d.2.2 i k).1,λc=>by rw[n] at c;cases c⟩
   ·rw[Je h1] at a
    cases a
  ·by_cases h2:zJ y.kind
   ·rw[Jf h2] at a
    refine⟨h.apt_comes p a,?_⟩;obtain⟨⟨i,k,e⟩,hr,n,u,s,t⟩:=zbb a;refine⟨hr,by rw[e];exact((g.legs h2).2.2 i k).1,λ_=>?_⟩
    rw[u,s];exact⟨q,g.party h2,t⟩
   ·rw[Je h2] at a
    cases a
inductive zjA (x:Off):List Wk->(Nat->zY)->(Nat->zY)->Prop
 | nil (L:Nat->zY):zjA x [] L L
 | snoc (l:List Wk) (L M:Nat->zY) (v:Wk) (k:Nat) (z:zY) (h:zjA x l L M) (hk:zW x.sa v.leg x.san=k) (hl:k<x.san) (hw:qV (x.sa k) v (M k) 0 z):zjA x (l++[v]) L (zht M k z)
structure zav (x:Off)(l:List Wk)(j:Nat)(M:Nat->zY):Prop where
 done:zjA x (l.take j) x.ld M
 good:∀ i,i<x.san->qm (x.sa i) (M i)
 apt:∀ v ∈ l.drop j,Apt x M v
theorem zav.start {l:List Wk}(a:Zk x)(b:∀ v ∈ l,Apt x x.ld v):zav x l 0 x.ld :=
 ⟨by rw[List.take_zero];exact .nil _,a.2.2.2.1,by rw[List.drop_zero];exact b⟩
theorem zav.comes {l:List Wk}{M:Nat->zY}{v:Wk}(h:zav x l j M)(d:l[j]?=some v)(b:zW x.sa v.leg x.san=k)(c:k<x.san)(f:WkOk x v):ComesOk v (M k):=λa=>by
 obtain⟨h1,h2,h3⟩:=f.2.2 a;refine⟨h1,h2,h3,?_⟩;have e:v ∈ l.drop j:=by
  rw[List.mem_iff_getElem?];exact⟨0,by rw[List.getElem?_drop];simpa using d⟩
 have:=(h.apt v e).2 k c (by rw[← b];exact zcn _ _ _ (by rw[b];exact c))
 rw[Je (by rw[a];decide)] at this
 exact this
theorem zav.there {l:List Wk}{M:Nat->zY}{v:Wk}(h:zav x l j M)(d:l[j]?=some v)(a:zW x.sa v.leg x.san=k)(b:k<x.san)(c:v.goes=true):zfn (M k) v.res v.who:=by
 have e:v ∈ l.drop j:=by
  rw[List.mem_iff_getElem?];exact⟨0,by rw[List.getElem?_drop];simpa using d⟩
 have:=(h.apt v e).2 k b (by rw[← a];exact zcn _ _ _ (by rw[a];exact b))
 rw[Jf c] at this;exact this
theorem zav.next {l:List Wk}{M:Nat->zY}{v:Wk}{z:zY}(h:zav x l j M)(o:l.Pairwise zdu)(c:l[j]?=some v)(d:zW x.sa v.leg x.san=k)(f:k<x.san)(p:WkOk x v)(n:qV (x.sa k) v (M k) 0 z):zav x l (j+1) (zht M k z):=by
 have b:zbO (x.sa k) v (M k) z:=by
  rcases n.on (h.good k f) (h.comes c d f p) with⟨_,h⟩|⟨h,_⟩
  ·exact h
  ·unfold In at h;omega
 have g:(x.sa k).id=v.leg:=by rw[← d];exact zcn _ _ _ (by rw[d];exact f)
 have i:=(List.getElem?_eq_some_iff.1 c).1;have a:l.drop j=v :: l.drop (j+1):=by
  rw[List.drop_eq_getElem_cons i]
  congr 1
  exact(List.getElem?_eq_some_iff.1 c).2
 refine⟨?_,znp h.good b,λu m=>?_⟩
 ·rw[List.take_add_one,c]
  exact .snoc _ _ _ _ k z h.done d f n
 ·refine(h.apt u (by rw[a];exact List.mem_cons_of_mem _ m)).after g b ?_
  have h2:(l.drop j).Pairwise _:=o.sublist (List.drop_sublist _ _);rw[a,List.pairwise_cons] at h2;have h3:=h2.1 u m
  rcases h3 with h3|h3|h3
  ·exact .inl (λe=>h3 e.symm)
  ·exact .inr (.inl (λe=>h3 e.symm))
  ·exact .inr (.inr (λe=>h3 e.symm))
end
def zaV (w:World)(base:Nat)(l a:zY)(d b c:Option Addr)(g e f:Nat)(h:Option Addr)(k:Nat)(i:Option Addr)(m:Nat)(j:Option Addr)(n:Nat):Prop :=
 ((.slice h a.stn k=Value.slice d l.stn g/\a.stn=l.stn/\a.st=l.st)∨w.ownsRow base 220 4 (h,a.stn,k) a.stn (zy a.st a.stn))/\((.slice i a.ron m=Value.slice b l.ron e/\a.ron=l.ron/\a.ro=l.ro)∨w.ownsRow base 228 4 (i,a.ron,m) a.ron (zw a.ro a.ron))/\((.slice j a.sen n=Value.slice c l.sen f/\a.sen=l.sen/\a.se=l.se)∨w.ownsRow base 234 2 (j,a.sen,n) a.sen (zB a.se a.sen))
theorem zaV.box {w w':World}{base g:Nat}{l u:zY}{d a c:Option Addr}{i e f:Nat}{m n p:Option Addr}{r s t:Nat}{cs:Array Value}(h:zaV w base l u d a c i e f m r n s p t)(k:zx w w' (λb=>b=g))(j:w.heap[g]?=some (.cells cs 145 (0,0))):zaV w' base l u d a c i e f m r n s p t :=
 ⟨h.1.imp id (λo=>k.own o (λq h1 h2=>zQ o j (by decide) q h1 h2)),h.2.1.imp id (λo=>k.own o (λq h1 h2=>zQ o j (by decide) q h1 h2)),h.2.2.imp id (λo=>k.own o (λq h1 h2=>zQ o j (by decide) q h1 h2))⟩
theorem zaV.lower {w:World}{base a:Nat}{l r:zY}{d b c:Option Addr}{g e f:Nat}{j k m:Option Addr}{n p q:Nat}(h:zaV w base l r d b c g e f j n k p m q)(i:a<=base):zaV w a l r d b c g e f j n k p m q :=
 ⟨h.1.imp id (λo=>zu o i),h.2.1.imp id (λo=>zu o i),h.2.2.imp id (λo=>zu o i)⟩
def zgX (pe:Nat->Addr)(s:Zj)(v:Wk)(l:zY)(d b c:Option Addr)(h f g:Nat)(base:Nat)(e:Ending)(w:World):Prop :=
 (∃ (a:zY) (i:Option Addr) (n:Nat) (j:Option Addr) (o:Nat) (m:Option Addr) (p:Nat),e=.returned (.agg #[(i,a.stn,n),(j,a.ron,o),(m,a.sen,p)])/\qV s v l 0 a/\zaV w base l a d b c h f g i n j o m p)∨(∃ k:Nat,1<=k/\k<=8/\e=zmK pe k/\qV s v l (k:Int) l)
theorem done_goes (s:Zj)(v:Wk)(l:zY)(r q f c d:Option Addr)(u t j g i:Nat)(pe:Nat->Addr)(w:World)(O:v.goes=true)
  (h:∀ V,Below w.heap.size w V->Calls prog 249 #[.agg #[v.leg,(v.res:Int),v.who,v.p.pe,v.p.len,v.p.hei,v.p.cl,v.p.all,v.p.be,v.goes],.agg #[(f,l.stn,j),(c,l.ron,g),(d,l.sen,i)]] V λe w'=>zgX pe s v l f c d j g i V.heap.size e w'/\Below V.heap.size V w') :
  Calls prog 199 #[.agg #[v.leg,(v.res:Int),v.who,v.p.pe,v.p.len,v.p.hei,v.p.cl,v.p.all,v.p.be,v.goes],.agg (s,r,u,q,t),.agg #[(f,l.stn,j),(c,l.ron,g),(d,l.sen,i)]] w λe w'=>zgX pe s v l f c d j g i w.heap.size e w'/\Below w.heap.size w w':=by
 have H:=hI h;rw[O] at H ⊢;clear h O;obtain⟨K,M,I,J,L⟩:=zcT w (.cells #[v.leg,(v.res:Int),v.who,v.p.pe,v.p.len,v.p.hei,v.p.cl,v.p.all,v.p.be,.bool true] 268) (.cells (s,r,u,q,t) 140) (.cells #[(f,l.stn,j),(c,l.ron,g),(d,l.sen,i)] 145) (.cells #[True,True,True] 145);have o:Below _ w ((((w.alloc (.cells #[v.leg,(v.res:Int),v.who,v.p.pe,v.p.len,v.p.hei,v.p.cl,v.p.all,v.p.be,.bool true] 268)).alloc (.cells (s,r,u,q,t) 140)).alloc (.cells #[(f,l.stn,j),(c,l.ron,g),(d,l.sen,i)] 145)).alloc (.cells #[True,True,True] 145)):=zk (zk (zk (zk bZ _) _) _) _;go_enter func199,ntmps199;go_upto_region 1 with fail;generalize (((w.alloc _).alloc _).alloc _).alloc _=V at K M I J L o ⊢;obtain⟨w0,w1,w2,w3,w4,w5,w6,w7,w8,w9⟩:=ce10 K;obtain⟨X,Z,m⟩:=ce3 I;go_wp2_with fail;clear w0 w1 w2 w3 w4 w5 w6 w7 w8 w9  X Z m;refine(H V o).mono ?_;rintro e Y ⟨F,y⟩;have n:=zb J y;have x:=ze o y
 rcases F with⟨m,z,C,A,D,B,E,rfl,G,N⟩|⟨k,h1,h8,rfl,G⟩
 ·have R:=hI G
  obtain⟨r0,r1,r2⟩:=ce3 n;obtain⟨T,U,W⟩:=fe3 n;have S:=hI (zcq n (z,m.stn,C) (A,m.ron,D) (B,m.sen,E));have P:Hid (Below _ w (((Y.setCell _ (z,m.stn,C)).setCell _ (A,m.ron,D)).setCell _ (B,m.sen,E))):=((x.setCell (p:=(w.heap.size+1+1+1,0)) (by show _<=_+1;omega) _).setCell (p:=(w.heap.size+1+1+1,1)) (by show _<=_+1;omega) _).setCell (p:=(w.heap.size+1+1+1,2)) (by show _<=_+1;omega) _
  have Q:Hid (zaV (((Y.setCell _ (z,m.stn,C)).setCell _ (A,m.ron,D)).setCell _ (B,m.sen,E)) _ l m f c d j g i z C A D B E):=(N.lower o.size).box ((((zx.refl Y (λb=>b=_)).set (a:=⟨_,0,none⟩) rfl _).set (a:=⟨_,1,none⟩) rfl _).set (a:=⟨_,2,none⟩) rfl _) n
  clear G N J K M I n o x y;go_wp2;clear r0 r1 r2 T U W;obtain⟨z0,z1,z2⟩:=ce3 S;exact Jj (by simp[results,results199,go_sem,z0,z1,z2]) rfl ⟨.inl ⟨m,z,C,A,D,B,E,rfl,R,Q⟩,P⟩
 ·exact⟨rfl,.inr ⟨k,h1,h8,rfl,G⟩,x⟩
theorem znI (s:Zj)(v:Wk)(l:zY)(r q f c d:Option Addr)(u t j g i:Nat)(pe:Nat->Addr)(w:World)(O:v.goes=false)
  (h:∀ V,Below w.heap.size w V->Calls prog 250 #[.agg #[v.leg,(v.res:Int),v.who,v.p.pe,v.p.len,v.p.hei,v.p.cl,v.p.all,v.p.be,v.goes],.agg (s,r,u,q,t),.agg #[(f,l.stn,j),(c,l.ron,g),(d,l.sen,i)]] V λe w'=>zgX pe s v l f c d j g i V.heap.size e w'/\Below V.heap.size V w') :
  Calls prog 199 #[.agg #[v.leg,(v.res:Int),v.who,v.p.pe,v.p.len,v.p.hei,v.p.cl,v.p.all,v.p.be,v.goes],.agg (s,r,u,q,t),.agg #[(f,l.stn,j),(c,l.ron,g),(d,l.sen,i)]] w λe w'=>zgX pe s v l f c d j g i w.heap.size e w'/\Below w.heap.size w w':=by
 have H:=hI h;rw[O] at H ⊢;clear h O;obtain⟨L,K,I,J,M⟩:=zcT w (.cells #[v.leg,(v.res:Int),v.who,v.p.pe,v.p.len,v.p.hei,v.p.cl,v.p.all,v.p.be,.bool false] 268) (.cells (s,r,u,q,t) 140) (.cells #[(f,l.stn,j),(c,l.ron,g),(d,l.sen,i)] 145) (.cells #[True,True,True] 145);have o:Below _ w ((((w.alloc (.cells #[v.leg,(v.res:Int),v.who,v.p.pe,v.p.len,v.p.hei,v.p.cl,v.p.all,v.p.be,.bool false] 268)).alloc (.cells (s,r,u,q,t) 140)).alloc (.cells #[(f,l.stn,j),(c,l.ron,g),(d,l.sen,i)] 145)).alloc (.cells #[True,True,True] 145)):=zk (zk (zk (zk bZ _) _) _) _;go_enter func199,ntmps199;go_upto_region 1 with fail;generalize (((w.alloc _).alloc _).alloc _).alloc _=V at L K I J M o ⊢;obtain⟨w0,w1,w2,w3,w4,w5,w6,w7,w8,w9⟩:=ce10 L;obtain⟨s0,s1,s2,s3,s4,s5,s6,s7⟩:=ce8 K;obtain⟨X,Z,m⟩:=ce3 I;go_wp2_with fail;clear w0 w1 w2 w3 w4 w5 w6 w7 w8 w9 s0 s1 s2 s3 s4 s5 s6 s7 X Z m;refine(H V o).mono ?_;rintro e Y ⟨F,y⟩;have n:=zb J y;have x:=ze o y
 rcases F with⟨m,z,C,A,D,B,E,rfl,G,N⟩|⟨k,h1,h8,rfl,G⟩
 ·have R:=hI G
  obtain⟨r0,r1,r2⟩:=ce3 n;obtain⟨T,U,W⟩:=fe3 n;have S:=hI (zcq n (z,m.stn,C) (A,m.ron,D) (B,m.sen,E));have P:Hid (Below _ w (((Y.setCell _ (z,m.stn,C)).setCell _ (A,m.ron,D)).setCell _ (B,m.sen,E))):=((x.setCell (p:=(w.heap.size+1+1+1,0)) (by show _<=_+1;omega) _).setCell (p:=(w.heap.size+1+1+1,1)) (by show _<=_+1;omega) _).setCell (p:=(w.heap.size+1+1+1,2)) (by show _<=_+1;omega) _
  have Q:Hid (zaV (((Y.setCell _ (z,m.stn,C)).setCell _ (A,m.ron,D)).setCell _ (B,m.sen,E)) _ l m f c d j g i z C A D B E):=(N.lower o.size).box ((((zx.refl Y (λb=>b=_)).set (a:=⟨_,0,none⟩) rfl _).set (a:=⟨_,1,none⟩) rfl _).set (a:=⟨_,2,none⟩) rfl _) n
  clear G N J L K I n o x y;go_wp2;clear r0 r1 r2 T U W;obtain⟨z0,z1,z2⟩:=ce3 S;exact Jj (by simp[results,results199,go_sem,z0,z1,z2]) rfl ⟨.inl ⟨m,z,C,A,D,B,E,rfl,R,Q⟩,P⟩
 ·exact⟨rfl,.inr ⟨k,h1,h8,rfl,G⟩,x⟩
theorem done_any (s:Zj)(v:Wk)(l:zY)(p o d a b:Option Addr)(u t i f g:Nat)(pe:Nat->Addr)(w:World)(O:qY w pe)(D:qm s l)(hr:v.res<3)(T:v.goes=false->In v.who 1 9999/\qI v.p/\zaI v.p.len v.p.cl v.res=true)(n:if v.goes=true then zfn l v.res v.who else ¬ zfn l v.res v.who)
  (L:s.la.n<=1048576/\s.ca.n<=1048576) (P:zG w p s.la) (N:zG w o s.ca) (U:zY.Is w [(d,l.stn,i),(a,l.ron,f),(b,l.sen,g)] l) :
  Calls prog 199 #[.agg #[v.leg,(v.res:Int),v.who,v.p.pe,v.p.len,v.p.hei,v.p.cl,v.p.all,v.p.be,v.goes],.agg (s,p,u,o,t),.agg #[(d,l.stn,i),(a,l.ron,f),(b,l.sen,g)]] w λe w'=>zgX pe s v l d a b i f g w.heap.size e w'/\Below w.heap.size w w':=by
 have l1:=D.1.2.1;have l2:=D.2.1.2.1;have l3:=D.2.2.2.1;obtain⟨_,_,_,_,_,_,F,M,S,J,Q,K,R⟩:=U;simp only[List.cons.injEq,Value.slice.injEq,true_and,and_true] at F;obtain⟨⟨rfl,rfl⟩,⟨rfl,rfl⟩,rfl,rfl⟩:=F;have I:v.res=0∨v.res=1∨v.res=2:=by omega
 cases hg:v.goes with
 | true =>
  rw[hg,Jf rfl] at n;rw[← hg];refine done_goes s v l p o d a b u t i f g pe w hg λV y=>?_
  unfold zfn at n
  rcases I with m|m|m
  ·rw[Jf m] at n
   obtain⟨r,h1,h2,h3⟩:=zcs D.stays_one n;refine(freed_0 v l d a b i f g r V m (by omega) h1 h2 (λj H e=>Decidable.byContradiction λc=>h3 j H c e) (M.below y)).mono ?_
   rintro e w' ⟨⟨B,C,rfl,A⟩,k⟩;exact⟨.inl ⟨_,B,C,a,f,b,g,rfl,.noStay r m hg h1 h2,.inr A,.inl ⟨rfl,rfl,rfl⟩,.inl ⟨rfl,rfl,rfl⟩⟩,k⟩
  ·rw[Je (by omega),Jf m] at n
   obtain⟨r,h1,h2,h3⟩:=zcs D.rooms_one n;refine(freed_1 v l d a b i f g r V m (by omega) h1 h2 (λj H e=>Decidable.byContradiction λc=>h3 j H c e) (J.below y)).mono ?_
   rintro e w' ⟨⟨B,C,rfl,A⟩,k⟩;exact⟨.inl ⟨_,d,i,B,C,b,g,rfl,.noRoom r m hg h1 h2,.inl ⟨rfl,rfl,rfl⟩,.inr A,.inl ⟨rfl,rfl,rfl⟩⟩,k⟩
  ·rw[Je (by omega),Je (by omega)] at n
   obtain⟨r,h1,h2,h3⟩:=zcs D.seats_one n;refine(freed_2 v l d a b i f g r V m (by omega) h1 h2 (λj H e=>Decidable.byContradiction λc=>h3 j H c e) (K.below y)).mono ?_
   rintro e w' ⟨⟨B,C,rfl,A⟩,k⟩;exact⟨.inl ⟨_,d,i,a,f,B,C,rfl,.noSeat r m hg h1 h2,.inl ⟨rfl,rfl,rfl⟩,.inl ⟨rfl,rfl,rfl⟩,.inr A⟩,k⟩
 | false =>
  rw[hg,Je (by decide)] at n
  obtain⟨c1,c2,c3⟩:=T hg;rw[← hg];refine znI s v l p o d a b u t i f g pe w hg λV y=>?_
  unfold zfn at n;unfold zaI at c3
  rcases I with m|m|m
  ·rw[Jf m] at n
   rw[Je (by omega),Jf m,decide_eq_true_eq] at c3
   have G:=c2.2.1.resolve_left (λh=>by omega)
   refine(placed_0 s v l p o d a b u t i f g pe V (O.below y) D m hg c1 c2 G n L.1 (P.below y) (M.below y) S).mono ?_;rintro e w' ⟨⟨x,B,C,rfl,z,A⟩|⟨rfl,z⟩,k⟩
   ·exact⟨.inl ⟨_,B,C,a,f,b,g,rfl,z,.inr A,.inl ⟨rfl,rfl,rfl⟩,.inl ⟨rfl,rfl,rfl⟩⟩,k⟩
   ·exact⟨.inr ⟨5,by decide,by decide,rfl,z⟩,k⟩
  ·rw[Je (by omega),Jf m] at n
   rw[Je (by omega),Je (by omega),decide_eq_true_eq] at c3
   have E:=c2.2.2.resolve_left (λh=>by omega)
   refine(placed_1 s v l p o d a b u t i f g pe V (O.below y) D m hg c1 c2 ⟨E.1,λh=>E.2.elim (λq=>by rw[q.1] at h;cases h) (λq=>q.2)⟩ n L.2 (N.below y) (J.below y) Q).mono ?_
   rintro e w' ⟨⟨x,B,C,rfl,z,A⟩|⟨rfl,z⟩,k⟩
   ·exact⟨.inl ⟨_,d,i,B,C,b,g,rfl,z,.inl ⟨rfl,rfl,rfl⟩,.inr A,.inl ⟨rfl,rfl,rfl⟩⟩,k⟩
   ·exact⟨.inr ⟨6,by decide,by decide,rfl,z⟩,k⟩
  ·rw[Je (by omega),Je (by omega)] at n
   refine(placed_2 s v l p o d a b u t i f g pe V (O.below y) D m hg c1 c2 n (K.below y) R).mono ?_;rintro e w' ⟨⟨x,B,C,rfl,z,A⟩|⟨rfl,z⟩,k⟩
   ·exact⟨.inl ⟨_,d,i,a,f,B,C,rfl,z,.inl ⟨rfl,rfl,rfl⟩,.inl ⟨rfl,rfl,rfl⟩,.inr A⟩,k⟩
   ·exact⟨.inr ⟨7,by decide,by decide,rfl,z⟩,k⟩
def OnB (b:ql)(z:Int):Prop:=zez b/\HasLeg b z
theorem on1_any (b:ql)(a:Option Addr)(c:Nat)(z:Int)(p:Nat)(w:World)(A:b.lgn<=1048576)(v:zT w a b.lgn b.lg)(n:w.cell? (p,0)=some (int i64 z)) :
  Calls prog 188 #[.agg (b,a,c),.pointer (some (p,0))] w λe w'=>qX (OnB b z) e/\Below w.heap.size w w':=by
 have m:p<w.heap.size:=Ja w _ n;have j:=hI v;clear v;have f:Below _ w (w.alloc (.cells (b,a,c) 150)):=zk bZ _;have l:=Jb w (.cells (b,a,c) 150);go_enter func188,ntmps188;go_wp2_with fail;generalize w.alloc _=W at f l ⊢;refine(zhZ b a c _).mono ?_;rintro e w1 ⟨⟨t,rfl,r⟩,g⟩;have k:=hI r;have y:=zb l g;have d:=ze f g;have p1:=(d.cell m).trans n;clear r l f g n
 cases t with
 | false =>
  have i:Hid (¬ OnB b z):=λh=>by have:=k.2 h.1;cases this
  go_wp2;go_ret;exact⟨zl i,d⟩
 | true =>
  have x:=hI (k.1 rfl);have y3:=za y 3 _ rfl;clear k;go_wp2_with fail;refine(zny a _ c _ z _ A (j.below d)).mono ?_;rintro e w2 ⟨⟨u,rfl,s⟩,o⟩;have o:=o.symm;subst o;have q:=hI s;clear s
  cases u with
  | false =>
   have i:Hid (¬ OnB b z):=λh=>by have:=q.2 h.2;cases this
   go_wp2;go_ret;exact⟨zl i,d⟩
  | true =>
   have i:Hid (OnB b z):=⟨x,q.1 rfl⟩;go_wp2;go_ret;exact⟨zR i,d⟩
noncomputable def zgY (C:Nat->List Value)(P:Nat->Prop)(n:Nat):List Value:=(List.range ((onL P n).length*13)).map (zZ 13 (λj=>C (onI P n j)))
theorem zmc (sz:Nat)(C:Nat->List Value)(m:Nat)(v:List Value)(hv:v.length=sz)(a:C m=v):(List.range ((m+1)*sz)).map (zZ sz C)=(List.range (m*sz)).map (zZ sz C)++v:=by
 apply List.ext_getElem?
 intro i;rw[List.getElem?_append,List.length_map,List.length_range]
 by_cases h1:i<m*sz
 ·rw[Jf h1,List.getElem?_map,List.getElem?_map,List.getElem?_range h1,List.getElem?_range (by rw[Nat.add_mul];omega)]
 ·rw[Je h1]
  by_cases h2:i<(m+1)*sz
  ·have h3:i - m*sz<sz:=by rw[Nat.add_mul] at h2;omega
   rw[List.getElem?_map,List.getElem?_range h2,Option.map_some];rw[show i=m*sz+(i - m*sz) by omega,zC sz C m _ h3,a,show m*sz+(i - m*sz) - m*sz=i - m*sz by omega,List.getD_eq_getElem?_getD,List.getElem?_eq_getElem (by omega)]
   rfl
  ·rw[List.getElem?_eq_none (by simp;omega),List.getElem?_eq_none (by rw[Nat.add_mul] at h2;omega)]
theorem onRow_yes {C:Nat->List Value}{P:Nat->Prop}{n:Nat}(h:P n)(c:(C n).length=13):zgY C P (n+1)=zgY C P n++C n:=by
 unfold zgY;rw[show(onL P (n+1)).length=(onL P n).length+1 by rw[zbZ h];simp]
 rw[zmc 13 _ _ _ c (by rw[zdV P h])]
 congr 1
 refine List.map_congr_left λj a=>?_
 have b:=by simpa using a
 unfold zZ;dsimp only;rw[zcQ P (show j / 13<(onL P n).length by omega)]
theorem onRow_no {C:Nat->List Value}{P:Nat->Prop}{n:Nat}(h:¬ P n):zgY C P (n+1)=zgY C P n:=by
 unfold zgY;rw[zfJ h];refine List.map_congr_left λj a=>?_
 have b:=by simpa using a
 unfold zZ;dsimp only;rw[zcQ P (show j / 13<(onL P n).length by omega)]
theorem onL_le (P:Nat->Prop)(n:Nat):(onL P n).length<=n:=by rw[ziU];exact zhT P n
theorem QT.of_own {w:World}{base t sz n c:Nat}{b:Option Addr}{C:Nat->List Value}(h:w.ownsRow base t sz (b,n,c) n ((List.range (n*sz)).map (zZ sz C))):QT w b n sz C:=by
 intro k e;obtain⟨g,rfl,_,_⟩:=qh h (by omega)
 refine⟨g,0,rfl,λj d=>?_⟩
 have a:k*sz+j<n*sz:=by
  have h1:(k+1)*sz<=_:=Nat.mul_le_mul_right sz e;rw[Nat.add_mul] at h1
  omega
 rw[Nat.zero_add,zs h _ a rfl,zC sz C k j d]
def OnAns (w':World)(base:Nat)(n:Nat)(S:Nat->ql)(C:Nat->List Value)(z:Int)(e:Ending):Prop :=
 ∃ ao c,e=.returned (.slice ao (onL (λi=>OnB (S i) z) n).length c)/\(onL (λi=>OnB (S i) z) n).length<=c/\w'.ownsRow base 150 13 (.slice ao (onL (λi=>OnB (S i) z) n).length c) (onL (λi=>OnB (S i) z) n).length (zgY C (λi=>OnB (S i) z) n)
theorem ziY (ao:Option Addr)(n c:Nat)(S:Nat->ql)(C:Nat->List Value)(z:Int)(pa:Nat)(w:World)(hn:n<=1048576)(hs:Z2 n S 1048576)(hC:QT w ao n 13 C)(hI:∀ k,k<n->ql.Is w (C k) (S k))(hp:w.cell? (pa,0)=some (int i64 z)) :
  Calls prog 187 #[(ao,n,c),.func (.func 188) #[] #[.pointer (some (pa,0))]] w λe w'=>OnAns w' w.heap.size n S C z e/\Below w.heap.size w w':=by
 obtain⟨j0,ji,a5,a6,a7⟩:=info_parts Tryz.infoBooking;have a2:=Ja w _ hp;have HC:=hI hC;have HI:Hid _:=hI;have HS:=hI hs;have HP:Hid _:=hp;clear hC hI hs hp;obtain⟨P,hP⟩:∃ P,P=λi=>OnB (S i) z:=⟨_,rfl⟩
 have U:Hid (∀ i,P i↔_):=λi=>by rw[hP]
 unfold OnAns;rw[← hP];clear hP;go_enter func187,ntmps187;go_wp2;go_loopw [5,7,10] (λv _ i wr=>∃ k,k<=n/\i=int i64 k/\wr.ownsRow w.heap.size 150 13 v (onL P k).length (zgY C P k)/\Below w.heap.size w wr) (λ_ _ i _=>n - (intOf i).toNat)
 case atStart=>exact⟨0,Jq _,rfl,World.ownsRow_nil _ _ _ _,bZ⟩
 case round =>
  obtain⟨k,hk,rfl,ho,a⟩:=hrel;have J:=hI ho;clear ho
  by_cases hlt2:k<n
  ·obtain⟨bb,bo,rfl,m⟩:=HC k hlt2
   have s:=(HI k hlt2).length;obtain⟨f,g,l,H,_⟩:=HI k hlt2;obtain⟨b,N⟩:∃ b,b=S k:=⟨_,rfl⟩;rw[← N] at l H;have HB:=hI N;have Q:=hI H;have I:=hI s;have a4:b.lgn<=1048576:=by rw[N];exact(HS k hlt2).2
   have d:bb<w.heap.size:=Ja w _ (m 0 (by decide))
   have c0:wr.cell? _=some (.int _ _):=(a.cell (p:=⟨bb,bo+_,_⟩) d).trans (by have:=m 0 (by decide);rw[l] at this;exact this)
   have c1:wr.cell? _=some (.int _ _):=(a.cell d).trans (by have:=m 1 (by decide);rw[l] at this;exact this)
   have c2:wr.cell? _=some (.string _):=(a.cell d).trans (by have:=m 2 (by decide);rw[l] at this;exact this)
   have c3:wr.cell? _=some (.slice f _ g):=(a.cell d).trans (by have:=m 3 (by decide);rw[l] at this;exact this)
   have c4:wr.cell? _=some (.int _ _):=(a.cell d).trans (by have:=m 4 (by decide);rw[l] at this;exact this)
   have c5:wr.cell? _=some (.int _ _):=(a.cell d).trans (by have:=m 5 (by decide);rw[l] at this;exact this)
   have c6:wr.cell? _=some (.int _ _):=(a.cell d).trans (by have:=m 6 (by decide);rw[l] at this;exact this)
   have c7:wr.cell? _=some (.int _ _):=(a.cell d).trans (by have:=m 7 (by decide);rw[l] at this;exact this)
   have c8:wr.cell? _=some (.bool _):=(a.cell d).trans (by have:=m 8 (by decide);rw[l] at this;exact this)
   have c9:wr.cell? _=some (.int _ _):=(a.cell d).trans (by have:=m 9 (by decide);rw[l] at this;exact this)
   have X:wr.cell? _=some (.int _ _):=(a.cell d).trans (by have:=m 10 (by decide);rw[l] at this;exact this)
   have Y:wr.cell? _=some (.int _ _):=(a.cell d).trans (by have:=m 11 (by decide);rw[l] at this;exact this)
   have Z:wr.cell? _=some (.int _ _):=(a.cell d).trans (by have:=m 12 (by decide);rw[l] at this;exact this)
   have HE:=hI l;clear m l N H s;have A:=zk a (.cells (b,f,g) 150);have o:=Jb wr (.cells (b,f,g) 150);have E:Hid ((wr.alloc (.cells (b,f,g) 150)).ownsRow _ 150 13 u5 _ _):=zo (zk (Ji _ wr) _) J;clear J;go_wp2_with fail;generalize hBx:wr.heap.size=Bx at o ⊢;generalize wr.alloc _=W at A o E ⊢;clear hBx c0 c1 c2 c3 c4 c5 c6 c7 c8 c9 X Y Z a;refine(on1_any b f g z pa _ a4 (Q.below A) ((A.cell a2).trans HP)).mono ?_;rintro e O ⟨⟨t,rfl,ht⟩,B⟩;have G:=zb o B;have x:=ze A B;have M:Hid (t=true↔P k):=by show _↔P k;rw[U.out k,← HB.out];exact ht
   have q:=hI (zo B E);clear ht A o B E
   cases t with
   | true =>
    have r:=hI (M.1 rfl);clear M;obtain⟨y0,y1,y2,y3,y4,y5,y6,y7,y8,y9,a9,b0,b1⟩:=zeX G;have K:=Jb O (.cells (b,f,g) 150);have R:Hid (∀ j u,(C k)[j]?=some u->(O.alloc (.cells (b,f,g) 150)).cell? (((O.heap.size,0):Addr).add j)=some u):=by
     rw[HE.out];exact Jo K
    have F:=zk (Ji _ O) (.cells (b,f,g) 150);have T:Hid _:=zo F q;have y:=ze x F;have L:=y.size;have a8:=onL_le P k;have H1:Hid (∀ u ∈ C k,u.oneCell'=true):=by rw[HE.out];intro u hu;simp at hu;rcases hu with rfl|rfl|rfl|rfl|rfl|rfl|rfl|rfl|rfl|rfl|rfl|rfl|rfl <;> rfl
    clear K F;go_wp2_with (first|(at_builtin;refine zv _ rfl _ _ 36 rfl _ 150 j0 _ 13 128 underlying36 ji a5 a6 a7 rfl (by decide) _ _ _ (by rfl) T _ 1 1 _ rfl (λh=>(by cases h)) (by rw[I.out]) (λad e=>by cases e;exact R) H1 (by unfold maxLen;omega) (by omega) L ?_;intro v' w4 a3 a1))
    go_roundw
    case rel =>
     refine⟨k+1,by omega,by go_num,?_,y.grown a1 L (λj hj=>(q.lt j hj).1)⟩
     rw[onRow_yes r.out I.out,show(onL P (k+1)).length=(onL P k).length+1 by rw[zbZ r.out];simp]
     exact a3
    case measure=>simp[intOf];omega
   | false =>
    have r:Hid (¬ P k):=λh=>by have:=M.2 h;cases this
    clear M;go_wp2;go_roundw
    case rel =>
     refine⟨k+1,by omega,by go_num,?_,x⟩
     rw[onRow_no r.out,show(onL P (k+1)).length=(onL P k).length by rw[zfJ r.out]]
     exact q
    case measure=>simp[intOf];omega
  ·obtain rfl:k=n:=by omega
   obtain⟨V,c',e',a0,_⟩:=zp J;have D:=J;rw[e'] at D;have q:Hid _:=D;subst e';clear J D;go_wp2;go_ret;exact⟨⟨V,c',rfl,a0,q⟩,a⟩
theorem zeg (b:Option Addr)(n c:Nat)(S:Nat->ql)(C:Nat->List Value)(z:Int)(w:World)(s:n<=1048576)(j:Z2 n S 1048576)(i:QT w b n 13 C)(hI:∀ k,k<n->ql.Is w (C k) (S k)) :
  Calls prog 101 #[(b,n,c),z] w λe w'=>OnAns w' w.heap.size n S C z e/\Below w.heap.size w w':=by
 have a:Below _ w (w.alloc (.cells #[z] 3)):=zk bZ _;have l:=hI (i.below a);have m:Hid _:=λk q=>(hI k q).below a
 have o:Hid ((w.alloc (.cells #[_] 3)).cell? _=some (int i64 z)):=za (Jb w _) 0 _ rfl;have r:∀ (fn) (first cap) (w),(Instr.makeFunc fn _ cap).run prog w=.ok (.func fn first cap) w:=λ_ _ _ _=>rfl
 have p:=hI j;clear i hI j;go_enter func101,ntmps101;go_wp2_with (first|(go_at_call 187;refine(ziY b n c S C z _ _ s p l m o).mono ?_;rintro e w2 ⟨⟨d,c2,rfl,g,h⟩,f⟩))
 go_ret;exact⟨⟨d,c2,rfl,g,zu h a.size⟩,ze a f⟩
theorem zcz {G:Nat->Int}{x:Int}{n:Nat}(h:zaj G x n<n):Zv G x n=(zaj G x n:Int):=by unfold Zv;rw[Jf h]
theorem zcA {G:Nat->Int}{x:Int}{n:Nat}(h:¬ zaj G x n<n):Zv G x n=-1:=zbM (λc=>h ((zdo G n x).1 c))
theorem zbP (b:ql)(q:Option Addr)(s:Nat)(l:zY)(m:Option Addr)(t:Nat)(w:World)(N:l.stn<=1048576)(G:qw w m l.stn l.st) :
  Calls prog 184 #[(m,l.stn,t),.agg (b,q,s)] w λe w'=>qX (zfQ l b) e/\Below w.heap.size w w':=by
 have D:=hI G;clear G;obtain⟨c2,v⟩:∃ c,c=decide (¬ (b.len=0/\b.hei=0)):=⟨_,rfl⟩;have y:=hI v;clear v;have k:Below _ w (w.alloc (.cells (b,q,s) 150)):=zk bZ _;have f:=zoP k;go_enter func184,ntmps184;go_wp2_with fail;generalize hBx:w.heap.size=Bx at f ⊢;generalize w.alloc _=V at k f ⊢;have P:=za f 4 _ rfl;have Q:=za f 5 _ rfl;have R:=za f 6 _ rfl;have S:=za f 7 _ rfl;have T:=za f 8 _ rfl;have U:=za f 9 _ rfl;refine(zcE _ _ _ _ _ _ _).mono ?_;rw[← y.out];rintro e V1 ⟨rfl,a⟩;have n:=zb f a;have o:=ze k a;clear P Q R S T U f k a
 cases c2 with
 | false =>
  have j:Hid (zfQ l b):=.inl (by have:=y;simp at this;exact⟨this.1,this.2⟩)
  go_wp2;go_ret;exact⟨zR j,o⟩
 | true =>
  have z:Hid (¬ zcR b):=by have:=Js y.symm;exact λh=>this h
  clear y;have O:=za n 1 _ rfl;go_upto_region 4 with(first|(go_at_call 243;refine(zbz m _ t _ _ _ N (D.below o)).mono ?_;rintro e W ⟨rfl,a⟩;have B:=zb n a;have d:=ze o a))
  have u:=zM B;clear O n a hBx
  by_cases hf:zaj (Qc l.st) b.who l.stn<l.stn
  case neg =>
   have J:decide (0<=Zv (Qc l.st) b.who l.stn)=false:=by rw[zcA hf];rfl
   have j:Hid (¬ zfQ l b):=λh=>by rcases h with h|h;exact z h;exact hf h.1
   clear hf;generalize Zv _ _ _=r at J ⊢;refine zh (by kernel_rfl) (by kernel_rfl) ?_
   repeat(first|go_big_quiet_skip|(go_big_quiet_want;go_big_quiet_op;go_big_quiet_on))
   refine Jl ?_;rintro _ ⟨g,rfl⟩;go_wp2;go_ret;exact⟨zl j,ze d g.bel⟩
  rw[zcz hf];obtain⟨i,C⟩:∃ i,i=zaj (Qc l.st) b.who l.stn:=⟨_,rfl⟩;rw[← C] at hf ⊢;have A:=hI C;clear C;obtain⟨H,so,rfl,E,M,F,f3⟩:=D i hf;have x:=Ja w _ E;have q2:∀ g:zn W,_:=λg=>((ze d g.bel).cell (p:=⟨H,_+2,_⟩) x).trans F
  have q3:∀ g:zn W,_:=λg=>((ze d g.bel).cell (p:=⟨H,_+3,_⟩) x).trans f3
  have z5:∀ g:zn W,g.val.cell? _=some (.int _ _):=λg=>(g.bel.cell u).trans (za B 5 _ rfl)
  have z6:∀ g:zn W,g.val.cell? _=some (.int _ _):=λg=>(g.bel.cell u).trans (za B 6 _ rfl)
  have i0:decide (0<=(i:Int))=true:=by simp
  have i1:(0:Int)<=(i:Int):=by omega
  have i2:(i:Int)<(l.stn:Int):=by omega
  have I:=hI hf;clear E M F f3 hf
  by_cases c1:(l.st i).len=b.len
  case neg =>
   have K:((l.st i).len == b.len)=false:=by simpa using c1
   have j:Hid (¬ zfQ l b):=λh=>by rcases h with h|h;exact z h;exact c1 (by rw[A.out];exact h.2.1)
   clear c1;refine zh (by kernel_rfl) (by kernel_rfl) ?_
   repeat(first|go_big_quiet_skip|(go_big_quiet_want;go_big_quiet_op;go_big_quiet_on))
   refine Jl ?_;rintro _ ⟨g,rfl⟩;go_wp2;go_ret;exact⟨zl j,ze d g.bel⟩
  have K:((l.st i).len == b.len)=true:=by simpa using c1
  by_cases c2:(l.st i).hei=b.hei
  case neg =>
   have L:((l.st i).hei == b.hei)=false:=by simpa using c2
   have j:Hid (¬ zfQ l b):=λh=>by rcases h with h|h;exact z h;exact c2 (by rw[A.out];exact h.2.2)
   clear c1 c2;refine zh (by kernel_rfl) (by kernel_rfl) ?_
   repeat(first|go_big_quiet_skip|(go_big_quiet_want;go_big_quiet_op;go_big_quiet_on))
   refine Jl ?_;rintro _ ⟨g,rfl⟩;go_wp2;go_ret;exact⟨zl j,ze d g.bel⟩
  have L:((l.st i).hei == b.hei)=true:=by simpa using c2
  have j:Hid (zfQ l b):=.inr (by rw[← A.out];exact⟨I,c1,c2⟩)
  clear c1 c2;refine zh (by kernel_rfl) (by kernel_rfl) ?_
  repeat(first|go_big_quiet_skip|(go_big_quiet_want;go_big_quiet_op;go_big_quiet_on))
  refine Jl ?_;rintro _ ⟨g,rfl⟩;go_wp2;go_ret;exact⟨zR j,ze d g.bel⟩
theorem zaW (b:ql)(k:Option Addr)(n:Nat)(l:zY)(d:Option Addr)(o:Nat)(w:World)(E:l.sen<=1048576)(A:qE w d l.sen l.se) :
  Calls prog 186 #[(d,l.sen,o),.agg (b,k,n)] w λe w'=>qX (zfR l b) e/\Below w.heap.size w w':=by
 have v:=hI A;clear A;have a:Below _ w (w.alloc (.cells (b,k,n) 150)):=zk bZ _;have m:=zoP a;go_enter func186,ntmps186;go_wp2_with fail;generalize hBx:w.heap.size=Bx at m ⊢;generalize w.alloc _=V at a m ⊢;have G:=za m 1 _ rfl;refine(zdU d _ o _ _ _ E (v.below a)).mono ?_;rintro e W ⟨rfl,f⟩;have x:=zb m f;have c:=ze a f;have q:=zM x;clear G m f hBx
 by_cases hf:zaj (zag l.se) b.who l.sen<l.sen
 case neg =>
  have C:decide (0<=Zv (zag l.se) b.who l.sen)=false:=by rw[zcA hf];rfl
  have j:Hid (¬ zfR l b):=λh=>hf h.1
  clear hf;generalize Zv _ _ _=r at C ⊢;go_upto_region 2 with fail;refine zh (by kernel_rfl) (by kernel_rfl) ?_
  repeat(first|go_big_quiet_skip|(go_big_quiet_want;go_big_quiet_op;go_big_quiet_on))
  refine Jl ?_;rintro _ ⟨g,rfl⟩;go_wp2;go_ret;exact⟨zl j,ze c g.bel⟩
 rw[zcz hf];obtain⟨i,s⟩:∃ i,i=zaj (zag l.se) b.who l.sen:=⟨_,rfl⟩;rw[← s] at hf ⊢;have u:=hI s;clear s;obtain⟨F,so,rfl,y,z⟩:=v i hf;have t:=Ja w _ y;have q1:∀ g:zn W,_:=λg=>((ze c g.bel).cell (p:=⟨F,_+1,_⟩) t).trans z
 have z4:∀ g:zn W,g.val.cell? _=some (.int _ _):=λg=>(g.bel.cell q).trans (za x 4 _ rfl)
 have i0:decide (0<=(i:Int))=true:=by simp
 have i1:(0:Int)<=(i:Int):=by omega
 have i2:(i:Int)<(l.sen:Int):=by omega
 have B:=hI hf;clear y z hf
 by_cases c1:(l.se i).many=b.pe
 case neg =>
  have D:((l.se i).many == b.pe)=false:=by simpa using c1
  have j:Hid (¬ zfR l b):=λh=>c1 (by rw[u.out];exact h.2)
  clear c1;go_upto_region 2 with fail;refine zh (by kernel_rfl) (by kernel_rfl) ?_
  repeat(first|go_big_quiet_skip|(go_big_quiet_want;go_big_quiet_op;go_big_quiet_on))
  refine Jl ?_;rintro _ ⟨g,rfl⟩;go_wp2;go_ret;exact⟨zl j,ze c g.bel⟩
 have D:((l.se i).many == b.pe)=true:=by simpa using c1
 have j:Hid (zfR l b):=by show zfR l b;unfold zfR;rw[← u.out];exact⟨B,c1⟩
 clear c1;go_upto_region 2 with fail;refine zh (by kernel_rfl) (by kernel_rfl) ?_
 repeat(first|go_big_quiet_skip|(go_big_quiet_want;go_big_quiet_op;go_big_quiet_on))
 refine Jl ?_;rintro _ ⟨g,rfl⟩;go_wp2;go_ret;exact⟨zR j,ze c g.bel⟩
theorem zaX (b:ql)(G:Option Addr)(H:Nat)(s:Zj)(l:zY)(F u:Option Addr)(R I:Nat)(w:World)(hn:l.ron<=1048576)(t:∀ j,j<l.ron->0<=(l.ro j).cab/\(l.ro j).cab<s.ca.n)(hx:zG w F s.ca)(hz:qp w u l.ron l.ro) :
  Calls prog 185 #[(F,s.ca.n,R),(u,l.ron,I),.agg (b,G,H)] w λe w'=>qX (zeI s l b) e/\Below w.heap.size w w':=by
 have HZ:=hI hz;have HX:=hI hx;have D:=hI t;clear hz hx t;obtain⟨c2,J⟩:∃ c,c=decide (¬ (b.cl=0/\b.all=false/\b.be=0)):=⟨_,rfl⟩;have N:=hI J;clear J;have o:Below _ w (w.alloc (.cells (b,G,H) 150)):=zk bZ _;have n:=zoP o;go_enter func185,ntmps185;go_wp2_with fail;generalize hBx:w.heap.size=Bx at n ⊢;generalize w.alloc _=V at o n ⊢;have y4:=za n 4 _ rfl;have y5:=za n 5 _ rfl;have y6:=za n 6 _ rfl;have y7:=za n 7 _ rfl;have y8:=za n 8 _ rfl;have y9:=za n 9 _ rfl;refine(Q7 _ _ _ _ _ _ _).mono ?_;rw[← N.out];rintro e V1 ⟨rfl,m⟩;have v:=zb n m;have y:=ze o m;clear y4 y5 y6 y7 y8 y9 n o m
 cases c2 with
 | false =>
  have f:Hid (zeI s l b):=.inl (by have:=N;simp at this;exact⟨this.1,this.2.1,this.2.2⟩)
  go_wp2;go_ret;exact⟨zR f,y⟩
 | true =>
  have O:Hid (¬ zca b):=by have:=Js N.symm;exact λh=>this h
  clear N;have y1:=za v 1 _ rfl;go_upto_region 4 with(first|(go_at_call 244;refine(QF u _ I _ _ _ hn (HZ.below y)).mono ?_;rintro e W ⟨rfl,m⟩;have P:=zb v m;have a:=ze y m))
  have x:=zM P;clear y1 v m hBx
  by_cases hf:zaj (ZV l.ro) b.who l.ron<l.ron
  case neg =>
   have e0:decide (0<=Zv (ZV l.ro) b.who l.ron)=false:=by rw[zcA hf];rfl
   have f:Hid (¬ zeI s l b):=λh=>by rcases h with h|h;exact O h;exact hf h.1
   clear hf;generalize Zv _ _ _=r at e0 ⊢;refine zh (by kernel_rfl) (by kernel_rfl) ?_
   repeat(first|go_big_quiet_skip|(go_big_quiet_want;go_big_quiet_op;go_big_quiet_on))
   refine Jl ?_;rintro _ ⟨g,rfl⟩;go_wp2;go_ret;exact⟨zl f,ze a g.bel⟩
  rw[zcz hf];obtain⟨i,U⟩:∃ i,i=zaj (ZV l.ro) b.who l.ron:=⟨_,rfl⟩;rw[← U] at hf ⊢;have E:=hI U;clear U;obtain⟨q,K⟩:∃ k:Nat,(l.ro i).cab=(k:Int):=⟨(l.ro i).cab.toNat,by have:=D i hf;omega⟩
  have X:q<s.ca.n:=by have:=D i hf;omega
  have Q:Hid ((l.ro i).cab.toNat=q):=by show _=q;omega
  obtain⟨Z,so,rfl,f0,f1,f2,f3⟩:=HZ i hf;obtain⟨xb,xo,rfl,T,g1⟩:=HX q X;have z:=Ja w _ f0;have Y:=Ja w _ T;have q1:∀ g:zn W,_:=λg=>((ze a g.bel).cell (p:=⟨Z,_+1,_⟩) z).trans (by rw[f1,K])
  have q2:∀ g:zn W,_:=λg=>((ze a g.bel).cell (p:=⟨Z,_+2,_⟩) z).trans f2
  have p0:∀ g:zn W,_:=λg=>((ze a g.bel).cell Y).trans T
  have A:Hid (∀ g:zn W,_):=λg=>((ze a g.bel).cell (p:=⟨Z,_+3,_⟩) z).trans f3
  have B:Hid (∀ g:zn W,g.val.cell? _=some (.bool _)):=λg=>(g.bel.cell x).trans (za P 8 _ rfl)
  have z7:∀ g:zn W,g.val.cell? _=some (.int _ _):=λg=>(g.bel.cell x).trans (za P 7 _ rfl)
  have z9:∀ g:zn W,g.val.cell? _=some (.int _ _):=λg=>(g.bel.cell x).trans (za P 9 _ rfl)
  have i0:decide (0<=(i:Int))=true:=by simp
  have i1:(0:Int)<=(i:Int):=by omega
  have i2:(i:Int)<(l.ron:Int):=by omega
  have k1:(0:Int)<=(q:Int):=by omega
  have k2:(q:Int)<(s.ca.n:Int):=by omega
  have HF:=hI hf;clear f0 f1 f2 f3 T g1 hf K
  by_cases ca:(l.ro i).all=b.all
  case neg =>
   have f:Hid (¬ zeI s l b):=λh=>by rcases h with h|h;exact O h;exact ca (by rw[E.out];exact h.2.1)
   cases hba:b.all with
   | true =>
    have d:(l.ro i).all=false:=by cases d:(l.ro i).all;rfl;rw[d,hba] at ca;exact absurd rfl ca
    have L:∀ g:zn W,g.val.cell? _=_:=λg=>by rw[A.out g,d]
    have M:∀ g:zn W,g.val.cell? _=_:=λg=>by rw[B.out g,hba]
    clear ca hba d;refine zh (by kernel_rfl) (by kernel_rfl) ?_
    repeat(first|go_big_quiet_skip|(go_big_quiet_want;go_big_quiet_op;go_big_quiet_on))
    refine Jl ?_;rintro _ ⟨g,rfl⟩;go_wp2;go_ret;exact⟨zl f,ze a g.bel⟩
   | false =>
    have d:(l.ro i).all=true:=by cases d:(l.ro i).all;rw[d,hba] at ca;exact absurd rfl ca;rfl
    have L:∀ g:zn W,g.val.cell? _=_:=λg=>by rw[A.out g,d]
    have M:∀ g:zn W,g.val.cell? _=_:=λg=>by rw[B.out g,hba]
    clear ca hba d;refine zh (by kernel_rfl) (by kernel_rfl) ?_
    repeat(first|go_big_quiet_skip|(go_big_quiet_want;go_big_quiet_op;go_big_quiet_on))
    refine Jl ?_;rintro _ ⟨g,rfl⟩;go_wp2;go_ret;exact⟨zl f,ze a g.bel⟩
  have C:=hI ca
  by_cases cc:s.ca.A q=b.cl
  case neg =>
   have ec:(s.ca.A q == b.cl)=false:=by simpa using cc
   have f:Hid (¬ zeI s l b):=λh=>by rcases h with h|h;exact O h;exact cc (by rw[← Q.out,E.out];exact h.2.2.2)
   cases hba:b.all with
   | true =>
    have L:∀ g:zn W,g.val.cell? _=_:=λg=>by rw[A.out g,ca,hba]
    have M:∀ g:zn W,g.val.cell? _=_:=λg=>by rw[B.out g,hba]
    clear ca cc hba;refine zh (by kernel_rfl) (by kernel_rfl) ?_
    repeat(first|go_big_quiet_skip|(go_big_quiet_want;go_big_quiet_op;go_big_quiet_on))
    refine Jl ?_;rintro _ ⟨g,rfl⟩;go_wp2;go_ret;exact⟨zl f,ze a g.bel⟩
   | false =>
    have L:∀ g:zn W,g.val.cell? _=_:=λg=>by rw[A.out g,ca,hba]
    have M:∀ g:zn W,g.val.cell? _=_:=λg=>by rw[B.out g,hba]
    clear ca cc hba
    by_cases cm:(l.ro i).many=b.be
    ·have S:((l.ro i).many == b.be)=true:=by simpa using cm
     clear cm;refine zh (by kernel_rfl) (by kernel_rfl) ?_
     repeat(first|go_big_quiet_skip|(go_big_quiet_want;go_big_quiet_op;go_big_quiet_on))
     refine Jl ?_;rintro _ ⟨g,rfl⟩;go_wp2;go_ret;exact⟨zl f,ze a g.bel⟩
    ·have S:((l.ro i).many == b.be)=false:=by simpa using cm
     clear cm;refine zh (by kernel_rfl) (by kernel_rfl) ?_
     repeat(first|go_big_quiet_skip|(go_big_quiet_want;go_big_quiet_op;go_big_quiet_on))
     refine Jl ?_;rintro _ ⟨g,rfl⟩;go_wp2;go_ret;exact⟨zl f,ze a g.bel⟩
  have ec:(s.ca.A q == b.cl)=true:=by simpa using cc
  cases hba:b.all with
  | true =>
   have f:Hid (zeI s l b):=.inr (by rw[← E.out];exact⟨HF,C,.inl hba,by rw[Q.out];exact cc⟩)
   have L:∀ g:zn W,g.val.cell? _=_:=λg=>by rw[A.out g,ca,hba]
   have M:∀ g:zn W,g.val.cell? _=_:=λg=>by rw[B.out g,hba]
   clear ca cc hba;refine zh (by kernel_rfl) (by kernel_rfl) ?_
   repeat(first|go_big_quiet_skip|(go_big_quiet_want;go_big_quiet_op;go_big_quiet_on))
   refine Jl ?_;rintro _ ⟨g,rfl⟩;go_wp2;go_ret;exact⟨zR f,ze a g.bel⟩
  | false =>
   have L:∀ g:zn W,g.val.cell? _=_:=λg=>by rw[A.out g,ca,hba]
   have M:∀ g:zn W,g.val.cell? _=_:=λg=>by rw[B.out g,hba]
   by_cases cm:(l.ro i).many=b.be
   ·have S:((l.ro i).many == b.be)=true:=by simpa using cm
    have f:Hid (zeI s l b):=.inr (by rw[← E.out];exact⟨HF,C,.inr cm,by rw[Q.out];exact cc⟩)
    clear ca cc hba cm;refine zh (by kernel_rfl) (by kernel_rfl) ?_
    repeat(first|go_big_quiet_skip|(go_big_quiet_want;go_big_quiet_op;go_big_quiet_on))
    refine Jl ?_;rintro _ ⟨g,rfl⟩;go_wp2;go_ret;exact⟨zR f,ze a g.bel⟩
   ·have S:((l.ro i).many == b.be)=false:=by simpa using cm
    have f:Hid (¬ zeI s l b):=λh=>by
     rcases h with h|h
     ·exact O h
     ·rcases h.2.2.1 with h|h
      ·rw[hba] at h;cases h
      ·exact cm (by rw[E.out];exact h)
    clear ca cc hba cm;refine zh (by kernel_rfl) (by kernel_rfl) ?_
    repeat(first|go_big_quiet_skip|(go_big_quiet_want;go_big_quiet_op;go_big_quiet_on))
    refine Jl ?_;rintro _ ⟨g,rfl⟩;go_wp2;go_ret;exact⟨zl f,ze a g.bel⟩
structure zcB where
 name:Int
 own:ByteArray
 pe:Int
 ln:Int
 cab:Int
def zcB.zero:zcB:=⟨0,⟨#[]⟩,0,0,0⟩
instance:Inhabited zcB:=⟨zcB.zero⟩
def zbk (w:World)(a:Option Addr)(n:Nat)(S:Nat->zcB):Prop :=
 ∀ k,k<n->∃ b off,a=some ⟨b,off,none⟩/\w.cell? ⟨b,off+k*5,none⟩=some (int i64 (S k).name)/\w.cell? ⟨b,off+k*5+1,none⟩=some (.string (S k).own)/\w.cell? ⟨b,off+k*5+2,none⟩=some (int i64 (S k).pe)/\w.cell? ⟨b,off+k*5+3,none⟩=some (int i64 (S k).ln)/\w.cell? ⟨b,off+k*5+4,none⟩=some (int i64 (S k).cab)
theorem zbk.below {w w':World}{d:Option Addr}{n:Nat}{S:Nat->zcB}(h:zbk w d n S)(c:Below w.heap.size w w'):zbk w' d n S:=by
 intro k i;obtain⟨b,off,e,f,h1,h2,h3,g⟩:=h k i;have a:b<w.heap.size:=Ja w _ f;exact⟨b,off,e,(c.cell a).trans f,(c.cell a).trans h1,(c.cell a).trans h2,(c.cell a).trans h3,(c.cell a).trans g⟩
def QX (S:Nat->zcB)(j:Nat):Value :=
 if j % 5=0 then int i64 (S (j / 5)).name else if j % 5=1 then .string (S (j / 5)).own else if j % 5=2 then int i64 (S (j / 5)).pe else if j % 5=3 then int i64 (S (j / 5)).ln else int i64 (S (j / 5)).cab
theorem zgZ (S:Nat->zcB)(k:Nat):QX S (k*5)=int i64 (S k).name:=by
 unfold QX;rw[Jf (by omega),show k*5 / 5=k by omega]
theorem zha (S:Nat->zcB)(k:Nat):QX S (k*5+1)=.string (S k).own:=by
 unfold QX;rw[Je (by omega),Jf (by omega),show(k*5+1) / 5=k by omega]
theorem zhb (S:Nat->zcB)(k:Nat):QX S (k*5+2)=int i64 (S k).pe:=by
 unfold QX;rw[Je (by omega),Je (by omega),Jf (by omega),show(k*5+2) / 5=k by omega]
theorem zhc (S:Nat->zcB)(k:Nat):QX S (k*5+3)=int i64 (S k).ln:=by
 unfold QX;rw[Je (by omega),Je (by omega),Je (by omega),Jf (by omega),show(k*5+3) / 5=k by omega]
theorem zhd (S:Nat->zcB)(k:Nat):QX S (k*5+4)=int i64 (S k).cab:=by
 unfold QX;rw[Je (by omega),Je (by omega),Je (by omega),Je (by omega),show(k*5+4) / 5=k by omega]
def qW (S:Nat->zcB)(n:Nat):List Value:=(List.range (n*5)).map (QX S)
theorem zbd (S:Nat->zcB)(k:Nat):qW S (k+1)=qW S k++[int i64 (S k).name,.string (S k).own,int i64 (S k).pe,int i64 (S k).ln,int i64 (S k).cab]:=by
 unfold qW;rw[show(k+1)*5=k*5+1+1+1+1+1 by omega,List.range_succ,List.range_succ,List.range_succ,List.range_succ,List.range_succ]
 simp only[List.map_append,List.map_cons,List.map_nil,List.append_assoc,List.cons_append,List.nil_append,zgZ,zha,zhb,zhc,zhd]
theorem zcX {S S':Nat->zcB}{n:Nat}(h:∀ i,i<n->S i=S' i):qW S n=qW S' n:=by
 unfold qW;refine List.map_congr_left (λj a=>?_)
 have b:=by simpa using a
 unfold QX;rw[h _ (by omega)]
theorem zbI {w:World}{base e n c:Nat}{a:Option Addr}{S:Nat->zcB}(h:w.ownsRow base e 5 (.slice a n c) n (qW S n)):zbk w a n S:=by
 intro k hk;obtain⟨g,rfl,_,_⟩:=qh h (by omega)
 have b:=zs h (k*5) (by omega) rfl
 rw[zgZ] at b;have c1:=zs h (k*5+1) (by omega) rfl
 rw[zha] at c1;have c2:=zs h (k*5+2) (by omega) rfl
 rw[zhb] at c2;have c3:=zs h (k*5+3) (by omega) rfl
 rw[zhc] at c3;have c4:=zs h (k*5+4) (by omega) rfl
 rw[zhd] at c4;exact⟨g,0,rfl,by rw[Nat.zero_add];exact b,by rw[Nat.zero_add];exact c1,by rw[Nat.zero_add];exact c2,by rw[Nat.zero_add];exact c3,by rw[Nat.zero_add];exact c4⟩
end Go.Proofs.YtmdnjgihooflfaaGreatDoor

/-
  OWN TEXT: MarkOz, MarkStay, MarkRoom, MarkSeat, HeldStay, HeldRoom, HeldSeat.
-/
import Derived.Deep.DeepCutAuto
import Derived.Test.YtmdnjgihooflfaaGreatDoorB34
namespace Go.Proofs.YtmdnjgihooflfaaGreatDoor
open Go.RowKit
open Go.Value (int)
open Go.IntKind (i64)
open Tryz
set_option maxHeartbeats 64000000
set_option maxRecDepth 100000
def kS (S:Nat->Zj)(k0:Nat):Nat->Nat
 | 0=>k0
 | i+1=>kS S k0 i+(6+2*(S i).la.n+2*(S i).ca.n)
def mS (S:Nat->Zj)(k0:Nat)(i:Nat):Zj :=
 ⟨(kS S k0 i:Nat),zbl (kS S k0 i+1),zbl (kS S k0 i+2),(kS S k0 i+3:Nat),(kS S k0 i+4:Nat),zea (kS S k0 i+5) (S i).la,zea (kS S k0 i+5+2*(S i).la.n) (S i).ca,(kS S k0 i+5+2*(S i).la.n+2*(S i).ca.n:Nat)⟩
def mix (S:Nat->Zj)(k0 t:Nat)(i:Nat):Zj:=if i<t then mS S k0 i else S i
theorem zbe {S:Nat->Zj}{k0 t i:Nat}(h:i<t):mix S k0 t i=mS S k0 i:=Jf h
theorem zfL {S:Nat->Zj}{k0 t i:Nat}(h:¬ i<t):mix S k0 t i=S i:=Je h
theorem kS_le {S:Nat->Zj}{k0 N:Nat}(h:∀ i,i<N->(S i).la.n<=1048576/\(S i).ca.n<=1048576):∀ i,i<=N->kS S k0 i<=k0+i*4194310
 | 0,_=>by unfold kS;omega
 | i+1,hi=>by
  have:=kS_le (k0:=k0) h i (by omega)
  have:=h i (by omega)
  unfold kS
  omega
def SaB (v:Value)(N:Nat)(L C:Nat->Value)(b:Nat):Prop:=v.ownBlock=some b∨∃ i,i<N/\((L i).ownBlock=some b∨(C i).ownBlock=some b)
theorem markLaneZ (z:Int)(a:Option Addr)(c base k0:Nat)(p:zH)(w:World)(g:z=(k0:Int))(d:p.n<=1048576)(h1:k0<=100000000000000)(f:w.ownsRow base 223 2 (a,p.n,c) p.n (qd p)) :
  Calls prog 127 #[(a,p.n,c),z] w λe w'=>e=.returned ((k0+2*p.n:Nat):Int)/\w'.ownsRow base 223 2 (a,p.n,c) p.n (qd (zea k0 p))/\zx w w' (λb=>(Value.slice a p.n c).ownBlock=some b):=by
 subst g;exact markLaneP a c _ k0 p w d h1 f
theorem zod (z:Int)(a:Option Addr)(c base k0:Nat)(p:zH)(w:World)(g:z=(k0:Int))(d:p.n<=1048576)(h1:k0<=100000000000000)(f:w.ownsRow base 231 2 (a,p.n,c) p.n (qd p)) :
  Calls prog 128 #[(a,p.n,c),z] w λe w'=>e=.returned ((k0+2*p.n:Nat):Int)/\w'.ownsRow base 231 2 (a,p.n,c) p.n (qd (zea k0 p))/\zx w w' (λb=>(Value.slice a p.n c).ownBlock=some b):=by
 subst g;exact zob a c _ k0 p w d h1 f
theorem heldLaneZ (z:Int)(a:Option Addr)(c k0:Nat)(p:zH)(w:World)(d:z=(k0:Int))(b:p.n<=1048576)(h1:k0<=100000000000000)(h:zG w a (zea k0 p)) :
  Calls prog 132 #[(a,p.n,c),z] w λe w'=>e=.returned ((k0+2*p.n:Nat):Int)/\w'=w:=by
 subst d;exact heldLaneP a c k0 p w b h1 h
theorem zoe (z:Int)(a:Option Addr)(c k0:Nat)(p:zH)(w:World)(d:z=(k0:Int))(b:p.n<=1048576)(h1:k0<=100000000000000)(h:zG w a (zea k0 p)) :
  Calls prog 133 #[(a,p.n,c),z] w λe w'=>e=.returned ((k0+2*p.n:Nat):Int)/\w'=w:=by
 subst d;exact zoc a c k0 p w b h1 h
theorem zjp (U:Option Addr)(N c base k0:Nat)(S:Nat->Zj)(L C:Nat->Value)(w:World)(hN:N<=1048576)(h1:k0<=1048576)(hs:∀ i,i<N->(S i).la.n<=1048576/\(S i).ca.n<=1048576)(ho:qM w base (U,N,c) N S L C) :
  Calls prog 62 #[(U,N,c),(k0:Int)] w λe w'=>e=.returned ((kS S k0 N:Nat):Int)/\qM w' base (U,N,c) N (mS S k0) L C/\zx w w' (SaB (U,N,c) N L C):=by
 have HS:=hI hs;have Y:=hI ho;clear hs ho;go_enter func62,ntmps62;go_wp2;go_loopw [1,5] (λq i wr=>∃ (t k:Nat),t<=N/\i=int i64 t/\q=int i64 k/\k=kS S k0 t/\qM wr base (U,N,c) N (mix S k0 t) L C/\zx w wr (SaB (U,N,c) N L C)) (λ_ i _=>N - (intOf i).toNat)
 case atStart =>
  refine⟨0,k0,Jq _,rfl,rfl,rfl,?_,zx.refl _ _⟩;have e:mix S k0 0=S:=by funext i;exact zfL (by omega)
  rw[e];exact Y
 case round =>
  clear Y;obtain⟨t,k,ht,rfl,rfl,a9,u,hk⟩:=hrel;have n:=hI a9;have kb:k<=10000000000000:=by have:=kS_le (k0:=k0) HS t ht;omega
  clear a9
  by_cases hlt:t<N
  ·have b1:mix S k0 t t=S t:=zfL (by omega)
   have z:=u.la t hlt;have x:=u.ca t hlt;rw[b1] at z x;obtain⟨al,cl,eL,_⟩:=zp z;obtain⟨ac,cc,eC,_⟩:=zp x;obtain⟨g,rfl,b4,b5⟩:=qh u.row (by omega)
   have c5:=zs u.row (t*8+5) (by omega) rfl
   have c6:=zs u.row (t*8+6) (by omega) rfl
   rw[Q2,eL] at c5;rw[Q4,eC] at c6;rw[eL] at z;rw[eC] at x;obtain⟨u0,q0⟩:∃ v,_=some v:=⟨_,zs u.row (t*8) (by omega) rfl⟩
   have f0:=u.row.frozenAt (t*8);have o:=hI u;have l:Hid (_/\_):=⟨eL,eC⟩;have X:=hI z;have D:=hI x;have b3:=hI hk;have b2:=HS t hlt;clear u z x eL eC hk b1;go_wp2_with fail;refine(zau _ _ (by omega) (by omega)).mono ?_
   rintro e w2 ⟨rfl,Q⟩;have M:Hid _:=zo Q (zL o.row _ _);have a7:=((zx.refl wr (λb=>b=g)).set rfl _).trans (zx.of_below Q)
   have A:((k:Int)+1).toNat=kS S k0 t+1:=by have:=n.out;omega
   rw[A];clear A q0 f0 c5 c6 Q;obtain⟨u1,q1⟩:∃ v,_=some v:=⟨_,zs M (t*8+1) (by omega) rfl⟩
   have f1:=Jn M (t*8+1);go_wp2_with fail;refine(zau _ _ (by omega) (by omega)).mono ?_
   rintro e w3 ⟨rfl,R⟩;have m:Hid _:=zo R (zL M _ _);have a8:=(a7.set rfl _).trans (zx.of_below R);have A:((k:Int)+1+1).toNat=kS S k0 t+2:=by have:=n.out;omega
   rw[A];clear A q1 f1 R a7;obtain⟨u2,q2⟩:∃ v,_=some v:=⟨_,zs m (t*8+2) (by omega) rfl⟩
   obtain⟨u3,q3⟩:∃ v,_=some v:=⟨_,zs m (t*8+3) (by omega) rfl⟩
   obtain⟨u4,q4⟩:∃ v,_=some v:=⟨_,zs m (t*8+4) (by omega) rfl⟩
   have q5:w3.cell? (g,t*8+5)=some (al,(S t).la.n,cl):=by
    rw[zs m.out _ (by omega) rfl,Je (by omega),Je (by omega),Q2,l.out.1]
   have f2:=Jn m (t*8+2);have f3:=Jn m (t*8+3);have f4:=Jn m (t*8+4);go_wp2_with fail;have O:Hid _:=zL (zL (zL m (t*8+2) (.string (zbl (kS S k0 t+2)))) (t*8+3) (int i64 ((k:Int)+1+1+1))) (t*8+4) (int i64 ((k:Int)+1+1+1+1));have s:zx wr (((w3.setCell _ (.string (zbl (kS S k0 t+2)))).setCell _ (int i64 ((k:Int)+1+1+1))).setCell _ (int i64 ((k:Int)+1+1+1+1))) _:=((a8.set (a:=(g,t*8+2)) rfl _).set (a:=(g,t*8+3)) rfl _).set (a:=(g,t*8+4)) rfl _;clear q2 q3 q4 q5 f2 f3 f4 a8;generalize ((w3.setCell _ _).setCell _ _).setCell _ _=W4 at O s ⊢;have d:∀ b,(Value.slice (some (g,0)) N c).ownBlock=some b↔_:=λb=>by simp[Value.ownBlock];exact eq_comm
   have F:=hI (s.own X (λb f e=>zI o.row X (by decide) b ((d b).2 e) f))
   refine(markLaneZ _ al cl _ (kS S k0 t+5) _ _ (by have:=n.out;omega) b2.1 (by have:=n.out;omega) F.out).mono ?_
   rintro e w5 ⟨rfl,b0,G⟩;have P:Hid _:=G.own O (λb f e=>zI O F (by decide) b f e)
   have q6:w5.cell? (g,t*8+6)=some (ac,(S t).ca.n,cc):=by
    rw[zs P.out _ (by omega) rfl,Je (by omega),Je (by omega),Je (by omega),Je (by omega),Je (by omega),Q4,l.out.2]
   have B:=hI (G.own (s.own D (λb f e=>zI o.row D (by decide) b ((d b).2 e) f)) (λb f e=>zI F (s.own D (λb f e=>zI o.row D (by decide) b ((d b).2 e) f)) (by decide) b e f))
   have W:=hI b0;have J:=hI G;clear b0 G;go_wp2_with fail;refine(zod _ ac cc _ (kS S k0 t+5+2*(S t).la.n) _ _ (by omega) b2.2 (by have:=n.out;omega) B.out).mono ?_
   rintro e w6 ⟨rfl,a3,T⟩;have p:Hid _:=T.own P (λb f e=>zI P B (by decide) b f e)
   obtain⟨u7,q7⟩:∃ v,_=some v:=⟨_,zs p (t*8+7) (by omega) rfl⟩
   have f7:=Jn p (t*8+7);have V:=hI a3;have E:=hI T;have K:=hI s;clear a3 T q6 s;go_wp2;go_roundw
   case rel =>
    have e0:=n.out;have y:zx w6 (w6.setCell _ (int i64 ((kS S k0 t+5+2*(S t).la.n+2*(S t).ca.n:Nat):Int))) _:=(zx.refl w6 (λb=>b=g)).set (a:=⟨g,t*8+7,none⟩) rfl _
    have a2:∀ i,_->_->∀ b,_->_≠_:=λi r H b h1 h2=>by
     rcases Nat.lt_or_gt_of_ne H with h|h
     ·exact(o.out.apart i t h hlt).1 b h1 h2
     ·exact(o.out.apart t i h r).1 b h2 h1
    have a0:∀ i,_->_->∀ b,_->_≠_:=λi r H b h1 h2=>by
     rcases Nat.lt_or_gt_of_ne H with h|h
     ·exact(o.out.apart i t h hlt).2 b h1 h2
     ·exact(o.out.apart t i h r).2 b h2 h1
    rw[l.out.1] at a2;rw[l.out.2] at a0;refine⟨_,kS S k0 (t+1),by omega,by go_num,?_,rfl,⟨qR (zL p.out _ _) (λj hj=>?_),λi r=>?_,λi r=>?_,o.out.apart⟩,?_⟩
    ·congr 1
     show _=((_+_:Nat):Int)
     (try unfold wrap64);omega
    ·by_cases h7:j=t*8+7
     ·subst h7;rw[Jf rfl,zci,zbe (by omega)];rfl
     rw[Je h7]
     by_cases h4:j=t*8+4
     ·subst h4;rw[Jf rfl,zch,zbe (by omega)];show _=Value.int _ ((_:Nat):Int);congr 1;omega
     rw[Je h4]
     by_cases h3:j=t*8+3
     ·subst h3;rw[Jf rfl,zcg,zbe (by omega)];show _=Value.int _ ((_:Nat):Int);congr 1;omega
     rw[Je h3]
     by_cases h2:j=t*8+2
     ·subst h2;rw[Jf rfl,zcf,zbe (by omega)];rfl
     rw[Je h2]
     by_cases h1:j=t*8+1
     ·subst h1;rw[Jf rfl,zce,zbe (by omega)];rfl
     rw[Je h1]
     by_cases h0:j=t*8
     ·subst h0;rw[Jf rfl,zcd,zbe (by omega)];show _=Value.int _ ((_:Nat):Int);rw[e0]
     rw[Je h0]
     by_cases h5:j=t*8+5
     ·subst h5;rw[Q2,Q2]
     by_cases h6:j=t*8+6
     ·subst h6;rw[Q4,Q4]
     have H:j / 8≠t:=by omega
     have em:mix S k0 (t+1) (j / 8)=mix S k0 t (j / 8):=by
      by_cases h:j / 8<t
      ·rw[zbe h,zbe (by omega)]
      ·rw[zfL h,zfL (by omega)]
     unfold qz;rw[em]
    ·by_cases e:i=t
     ·subst e
      rw[zbe (by omega),l.out.1]
      have I:=E.own W (λb f e=>zI W B (by decide) b f e)
      exact y.own I (λb f e=>zI p I (by decide) b ((d b).2 e) f)
     ·have em:mix S k0 (t+1) i=mix S k0 t i:=by
       by_cases h:i<t
       ·rw[zbe h,zbe (by omega)]
       ·rw[zfL h,zfL (by omega)]
      rw[em];have Z:=o.la i r;have a4:=K.own Z (λb f e=>zI o.row Z (by decide) b ((d b).2 e) f)
      have a5:=J.own a4 (λb f e=>a2 i r ‹_› b f e)
      have I:=E.own a5 (λb f e=>zI a5 B (by decide) b f e)
      exact y.own I (λb f e=>zI p I (by decide) b ((d b).2 e) f)
    ·by_cases e:i=t
     ·subst e
      rw[zbe (by omega),l.out.2]
      exact y.own V (λb f e=>zI p V (by decide) b ((d b).2 e) f)
     ·have em:mix S k0 (t+1) i=mix S k0 t i:=by
       by_cases h:i<t
       ·rw[zbe h,zbe (by omega)]
       ·rw[zfL h,zfL (by omega)]
      rw[em];have Z:=o.ca i r;have a4:=K.own Z (λb f e=>zI o.row Z (by decide) b ((d b).2 e) f)
      have a5:=J.own a4 (λb f e=>zI F a4 (by decide) b e f)
      have I:=E.own a5 (λb f e=>a0 i r ‹_› b f e)
      exact y.own I (λb f e=>zI p I (by decide) b ((d b).2 e) f)
    ·exact b3.trans ((K.mono (λb e=>.inl ((d b).2 e))).trans ((J.mono (λb e=>.inr ⟨t,hlt,.inl (by rw[l.out.1];exact e)⟩)).trans ((E.mono (λb e=>.inr ⟨t,hlt,.inr (by rw[l.out.2];exact e)⟩)).trans (y.mono (λb e=>.inl ((d b).2 e))))))
   case measure=>simp[intOf];omega
  ·obtain rfl:t=N:=by omega
   have o:=hI u;clear u;go_wp2;go_ret;refine⟨by rw[n.out];rfl,?_,hk⟩
   have h:=o;refine⟨qR h.row (λj hj=>?_),λi r=>?_,λi r=>?_,h.apart⟩
   ·unfold qz;rw[zbe (show j / 8<t by omega)]
   ·have:=h.la i r;rw[zbe r] at this;exact this
   ·have:=h.ca i r;rw[zbe r] at this;exact this
theorem zjq (L:Option Addr)(N c k0:Nat)(S:Nat->Zj)(w:World)(hN:N<=1048576)(h1:k0<=1048576)(U:∀ i,i<N->(S i).la.n<=1048576/\(S i).ca.n<=1048576)(V:qB w L N (mS S k0)) :
  Calls prog 66 #[(L,N,c),(k0:Int)] w λe w'=>e=.returned ((kS S k0 N:Nat):Int)/\Below w.heap.size w w':=by
 have J:=hI U;have Z:=hI V;clear U V;go_enter func66,ntmps66;go_wp2;go_loopw [1,5] (λq i wr=>∃ (t k:Nat),t<=N/\i=int i64 t/\q=int i64 k/\k=kS S k0 t/\Below w.heap.size w wr) (λ_ i _=>N - (intOf i).toNat)
 case atStart=>exact⟨0,k0,Jq _,rfl,rfl,rfl,bZ⟩
 case round =>
  obtain⟨t,k,ht,rfl,rfl,u,d⟩:=hrel;have a:=hI u;have kb:k<=10000000000000:=by have:=kS_le (k0:=k0) J t ht;omega
  clear u
  by_cases hlt:t<N
  ·obtain⟨b,off,al,cl,K,M,rfl,O,h1,h2,h3,P,Q,R,T,h8,h9,_,_⟩:=Z t hlt
   have z:=J t hlt;have g:=Ja w _ h1;have i1:(0:Int)<=(t:Int):=by omega
   have i2:(t:Int)<(N:Int):=by omega
   obtain⟨W,l⟩:∃ s,s=zbl ((k:Int)+1).toNat:=⟨_,rfl⟩;obtain⟨X,m⟩:∃ s,s=zbl ((k:Int)+1+1).toNat:=⟨_,rfl⟩;obtain⟨x,H⟩:∃ x,x=k+5+2*(S t).la.n+2*(S t).ca.n:=⟨_,rfl⟩;have D:=hI l;have E:=hI m;have Y:=hI H;have A:=a.out;have n:Hid (∀ w',Below _ w w'->w'.cell? _=some (.int _ (k:Int))/\w'.cell? _=some (.string W)/\w'.cell? _=some (.string X)/\w'.cell? _=some (.int _ ((k:Int)+1+1+1))/\w'.cell? _=some (.int _ ((k:Int)+1+1+1+1)) /\
     w'.cell? _=some (.slice al (S t).la.n cl)/\w'.cell? _=some (.slice K (S t).ca.n M)/\w'.cell? _=some (.int _ (x:Int))):=λw' h=>by
    refine⟨(h.cell (p:=⟨b,off+_,_⟩) g).trans (O.trans ?_),(h.cell g).trans (h1.trans ?_),(h.cell (p:=⟨b,_+2,_⟩) g).trans (h2.trans ?_),(h.cell (p:=⟨b,_+3,_⟩) g).trans (h3.trans ?_),(h.cell (p:=⟨b,_+4,_⟩) g).trans (P.trans ?_),(h.cell (p:=⟨b,_+5,_⟩) g).trans Q,(h.cell (p:=⟨b,_+6,_⟩) g).trans R,(h.cell (p:=⟨b,_+7,_⟩) g).trans (T.trans ?_)⟩
    ·rw[A];rfl
    ·rw[l,show((k:Int)+1).toNat=kS S k0 t+1 by omega];rfl
    ·rw[m,show((k:Int)+1+1).toNat=kS S k0 t+2 by omega];rfl
    ·show some (Value.int _ ((_:Nat):Int))=_;congr 2;omega
    ·show some (Value.int _ ((_:Nat):Int))=_;congr 2;omega
    ·show some (Value.int _ ((_:Nat):Int))=_;rw[H,A]
   have B:=hI h8;have C:=hI h9;clear O h1 h2 h3 P Q R T h8 h9 l m H A;obtain⟨c0,c1,_,_,_,_,_,_⟩:=n wr d;have n0:((k:Int) != (k:Int))=false:=by simp
   go_upto_region 7 with fail;clear c0;go_cut [1,5,28] (λq i v I=>q=int i64 ((k:Int)+1)/\i=int i64 t/\v=.bool false/\Below w.heap.size w I)
   case first =>
    go_region_held3 (λw'=>w'.cell? (b,off+t*8+1)=some (.string W))
     ((first|exact c1|exact(n _ (ze d.drew o)).2.1))
     (first|(go_at_call 71;refine(zau _ _ (by omega) (by omega)).mono ?_;rintro e w3 ⟨rfl,o⟩;rw[← D.out]))
    all_goals
     go_wp2;go_meet;exact⟨rfl,rfl,by simp,ze d.drew o⟩
   case rest =>
    obtain⟨rfl,rfl,rfl,j⟩:=hcut;obtain⟨w1,F⟩:∃ y,y=wc:=⟨_,rfl⟩;subst F;obtain⟨_,_,c2,_,_,_,_,_⟩:=n w1 j;go_upto_region 10 with fail;go_cut [1,5,38] (λq i v I=>q=int i64 ((k:Int)+1+1)/\i=int i64 t/\v=.bool false/\Below w.heap.size w I)
    case first =>
     go_region_held3 (λw'=>w'.cell? (b,off+t*8+2)=some (.string X))
      ((first|exact c2|exact(n _ (ze j.drew r)).2.2.1))
      (first|(go_at_call 71;refine(zau _ _ (by omega) (by omega)).mono ?_;rintro e w4 ⟨rfl,r⟩;rw[← E.out]))
     all_goals
      go_wp2;go_meet;exact⟨rfl,rfl,by simp,ze j.drew r⟩
    case rest =>
     obtain⟨rfl,rfl,rfl,f⟩:=hcut;obtain⟨w2,G⟩:∃ y,y=wc:=⟨_,rfl⟩;subst G;clear c1 c2;obtain⟨_,_,_,c3,c4,c5,c6,c7⟩:=n w2 f;have a0:decide (((kS S k0 t+5+2*(S t).la.n:Nat):Int)<0)=false:=by simp;omega
     have a1:decide (((kS S k0 t+5+2*(S t).la.n+2*(S t).ca.n:Nat):Int)<0)=false:=by simp;omega
     have a2:(((x:Nat):Int) != ((kS S k0 t+5+2*(S t).la.n+2*(S t).ca.n:Nat):Int))=false:=by rw[Y.out,a.out];simp
     go_wp2_with (first|(go_at_call 132;refine sC (heldLaneZ _ al cl _ _ _ (by have:=a.out;omega) z.1 (by have:=a.out;omega) (B.out.below f)) ?_)|(go_at_call 133;refine sC (zoe _ K M _ _ _ (by omega) z.2 (by have:=a.out;omega) (C.out.below f)) ?_))
     go_roundw
     case rel =>
      refine⟨_,kS S k0 (t+1),by omega,by go_num,?_,rfl,f⟩
      congr 1
      show _=((_+_:Nat):Int)
      have A:=a.out
      (try unfold wrap64);omega
     case measure=>simp[intOf];omega
  ·obtain rfl:t=N:=by omega
   go_wp2;go_ret;exact⟨by rw[a.out];rfl,d⟩
def ZM (k0:Int)(t:Nat):Zp:=⟨k0+4*t,k0+4*t+1,k0+4*t+2,k0+4*t+3⟩
theorem zeT (f:Option Addr)(n c base:Nat)(S:Nat->Zp)(k0:Int)(w:World)(hn:n<=2097152)(k:0<=k0)(h1:k0<=1000000000000000)(D:w.ownsRow base 220 4 (f,n,c) n (zy S n)) :
  Calls prog 129 #[(f,n,c),k0] w λe w'=>e=.returned (int i64 (k0+4*n))/\w'.ownsRow base 220 4 (f,n,c) n (zy (ZM k0) n)/\zx w w' (λb=>(Value.slice f n c).ownBlock=some b):=by
 go_enter func129,ntmps129;go_wp2;go_loopw [1,5] (λq i wr=>∃ (t:Nat),t<=n/\i=int i64 t/\q=int i64 (k0+4*t)/\wr.ownsRow base 220 4 (f,n,c) n ((List.range (n*4)).map (qv (λi=>if i<t then ZM k0 i else S i)))/\zx w wr (λb=>(Value.slice f n c).ownBlock=some b)) (λ_ i _=>n - (intOf i).toNat)
 case atStart=>exact⟨0,Jq _,rfl,by simp,by simpa [zy] using D,zx.refl _ _⟩
 case round =>
  obtain⟨t,ht,rfl,rfl,d,u⟩:=hrel
  by_cases hlt:t<n
  ·obtain⟨g,rfl,A,B⟩:=qh d (by omega)
   have l:=zs d (t*4) (by omega) rfl
   have v:=d.frozenAt (t*4);rw[zbu] at l;have m:=zs d (t*4+1) (by omega) rfl
   have x:=d.frozenAt (t*4+1);rw[zbv] at m;have o:=zs d (t*4+2) (by omega) rfl
   have y:=d.frozenAt (t*4+2);rw[zbw] at o;have p:=zs d (t*4+3) (by omega) rfl
   have z:=d.frozenAt (t*4+3);rw[zbx] at p;go_wp2;go_roundw
   case rel =>
    refine⟨t+1,by omega,by go_num,by go_num,qR (zL (zL (zL (zL d _ _) _ _) _ _) _ _) (λj hj=>?_),((((u.set (a:=⟨g,t*4,_⟩) rfl _).set (a:=⟨g,_+1,_⟩) rfl _).set (a:=⟨g,_+2,_⟩) rfl _).set (a:=⟨g,_+3,_⟩) rfl _)⟩
    have s:∀ (S'),(∀ i,i≠t->S' i=(if i<t then ZM k0 i else S i))->(S' t=ZM k0 t)->qv S' j=qv (λi=>if i<t+1 then ZM k0 i else S i) j:=by
     intro S' h1 h2;unfold qv;have:S' (j / 4)=(if j / 4<t+1 then ZM k0 (j / 4) else S (j / 4)):=by
      by_cases e:j / 4=t
      ·rw[e,h2,Jf (by omega)]
      ·rw[h1 _ e]
       by_cases e2:j / 4<t
       ·rw[Jf e2,Jf (by omega)]
       ·rw[Je e2,Je (by omega)]
     rw[this]
    rw[← s (λi=>if i=t then ZM k0 t else _) (λi h=>Je h) (Jf rfl)]
    by_cases h3:j=t*4+3
    ·subst h3;rw[Jf rfl,zbx,Jf rfl];simp[ZM];try omega
    rw[Je h3]
    by_cases h2:j=t*4+2
    ·subst h2;rw[Jf rfl,zbw,Jf rfl];simp[ZM];try omega
    rw[Je h2]
    by_cases h1:j=t*4+1
    ·subst h1;rw[Jf rfl,zbv,Jf rfl];simp[ZM];try omega
    rw[Je h1]
    by_cases k:j=t*4
    ·subst k;rw[Jf rfl,zbu,Jf rfl];simp[ZM];try omega
    rw[Je k];have r:j / 4≠t:=by omega
    unfold qv;simp only[Je r]
   case measure=>simp[intOf];omega
  ·obtain rfl:t=n:=by omega
   go_wp2;go_ret;refine⟨rfl,?_,u⟩;rw[zbU (S':=λi=>if i<t then _ else S i) (λi C=>(Jf C).symm)]
   exact d
def ZN (k0:Int)(t:Nat):qN:=⟨k0+4*t,k0+4*t+1,k0+4*t+2,((k0+4*(t:Int)+3) % 3 == 0)⟩
theorem zeU (f:Option Addr)(n c base:Nat)(S:Nat->qN)(k0:Int)(w:World)(hn:n<=2097152)(k:0<=k0)(h1:k0<=1000000000000000)(D:w.ownsRow base 228 4 (f,n,c) n (zw S n)) :
  Calls prog 130 #[(f,n,c),k0] w λe w'=>e=.returned (int i64 (k0+4*n))/\w'.ownsRow base 228 4 (f,n,c) n (zw (ZN k0) n)/\zx w w' (λb=>(Value.slice f n c).ownBlock=some b):=by
 go_enter func130,ntmps130;go_wp2;go_loopw [1,5] (λq i wr=>∃ (t:Nat),t<=n/\i=int i64 t/\q=int i64 (k0+4*t)/\wr.ownsRow base 228 4 (f,n,c) n ((List.range (n*4)).map (qs (λi=>if i<t then ZN k0 i else S i)))/\zx w wr (λb=>(Value.slice f n c).ownBlock=some b)) (λ_ i _=>n - (intOf i).toNat)
 case atStart=>exact⟨0,Jq _,rfl,by simp,by simpa [zw] using D,zx.refl _ _⟩
 case round =>
  obtain⟨t,ht,rfl,rfl,d,u⟩:=hrel
  by_cases hlt:t<n
  ·obtain⟨g,rfl,A,B⟩:=qh d (by omega)
   have l:=zs d (t*4) (by omega) rfl
   have v:=d.frozenAt (t*4);rw[zaJ] at l;have m:=zs d (t*4+1) (by omega) rfl
   have x:=d.frozenAt (t*4+1);rw[zaK] at m;have o:=zs d (t*4+2) (by omega) rfl
   have y:=d.frozenAt (t*4+2);rw[zaL] at o;have p:=zs d (t*4+3) (by omega) rfl
   have z:=d.frozenAt (t*4+3);rw[zaM] at p;go_wp2;go_roundw
   case rel =>
    refine⟨t+1,by omega,by go_num,by go_num,qR (zL (zL (zL (zL d _ _) _ _) _ _) _ _) (λj hj=>?_),((((u.set (a:=⟨g,t*4,_⟩) rfl _).set (a:=⟨g,_+1,_⟩) rfl _).set (a:=⟨g,_+2,_⟩) rfl _).set (a:=⟨g,_+3,_⟩) rfl _)⟩
    have s:∀ (S'),(∀ i,i≠t->S' i=(if i<t then ZN k0 i else S i))->(S' t=ZN k0 t)->qs S' j=qs (λi=>if i<t+1 then ZN k0 i else S i) j:=by
     intro S' h1 h2;unfold qs;have:S' (j / 4)=(if j / 4<t+1 then ZN k0 (j / 4) else S (j / 4)):=by
      by_cases e:j / 4=t
      ·rw[e,h2,Jf (by omega)]
      ·rw[h1 _ e]
       by_cases e2:j / 4<t
       ·rw[Jf e2,Jf (by omega)]
       ·rw[Je e2,Je (by omega)]
     rw[this]
    rw[← s (λi=>if i=t then ZN k0 t else _) (λi h=>Je h) (Jf rfl)]
    by_cases h3:j=t*4+3
    ·subst h3;rw[Jf rfl,zaM,Jf rfl];simp only[ZN];rw[show k0+4*(t:Int)+1+1+1=k0+4*(t:Int)+3 by omega]
    rw[Je h3]
    by_cases h2:j=t*4+2
    ·subst h2;rw[Jf rfl,zaL,Jf rfl];simp[ZN];try omega
    rw[Je h2]
    by_cases h1:j=t*4+1
    ·subst h1;rw[Jf rfl,zaK,Jf rfl];simp[ZN];try omega
    rw[Je h1]
    by_cases k:j=t*4
    ·subst k;rw[Jf rfl,zaJ,Jf rfl];simp[ZN];try omega
    rw[Je k];have r:j / 4≠t:=by omega
    unfold qs;simp only[Je r]
   case measure=>simp[intOf];omega
  ·obtain rfl:t=n:=by omega
   go_wp2;go_ret;refine⟨rfl,?_,u⟩;rw[zeb (S':=λi=>if i<t then _ else S i) (λi C=>(Jf C).symm)]
   exact d
def Qb (k0:Int)(t:Nat):Qe:=⟨k0+2*t,k0+2*t+1⟩
theorem zeV (f:Option Addr)(n c base:Nat)(S:Nat->Qe)(k0:Int)(w:World)(hn:n<=2097152)(k:0<=k0)(h1:k0<=1000000000000000)(z:w.ownsRow base 234 2 (f,n,c) n (zB S n)) :
  Calls prog 131 #[(f,n,c),k0] w λe w'=>e=.returned (int i64 (k0+2*n))/\w'.ownsRow base 234 2 (f,n,c) n (zB (Qb k0) n)/\zx w w' (λb=>(Value.slice f n c).ownBlock=some b):=by
 go_enter func131,ntmps131;go_wp2;go_loopw [1,5] (λq i wr=>∃ (t:Nat),t<=n/\i=int i64 t/\q=int i64 (k0+2*t)/\wr.ownsRow base 234 2 (f,n,c) n ((List.range (n*2)).map (qL (λi=>if i<t then Qb k0 i else S i)))/\zx w wr (λb=>(Value.slice f n c).ownBlock=some b)) (λ_ i _=>n - (intOf i).toNat)
 case atStart=>exact⟨0,Jq _,rfl,by simp,by simpa [zB] using z,zx.refl _ _⟩
 case round =>
  obtain⟨t,ht,rfl,rfl,d,r⟩:=hrel
  by_cases hlt:t<n
  ·obtain⟨g,rfl,v,x⟩:=qh d (by omega)
   have l:=zs d (t*2) (by omega) rfl
   have s:=d.frozenAt (t*2);rw[zaN] at l;have m:=zs d (t*2+1) (by omega) rfl
   have u:=d.frozenAt (t*2+1);rw[zaO] at m;go_wp2;go_roundw
   case rel =>
    refine⟨t+1,by omega,by go_num,by go_num,qR (zL (zL d _ _) _ _) (λj hj=>?_),((r.set (a:=⟨g,t*2,_⟩) rfl _).set (a:=⟨g,_+1,_⟩) rfl _)⟩
    have p:∀ (S'),(∀ i,i≠t->S' i=(if i<t then Qb k0 i else S i))->(S' t=Qb k0 t)->qL S' j=qL (λi=>if i<t+1 then Qb k0 i else S i) j:=by
     intro S' h1 h2;unfold qL;have:S' (j / 2)=(if j / 2<t+1 then Qb k0 (j / 2) else S (j / 2)):=by
      by_cases e:j / 2=t
      ·rw[e,h2,Jf (by omega)]
      ·rw[h1 _ e]
       by_cases e2:j / 2<t
       ·rw[Jf e2,Jf (by omega)]
       ·rw[Je e2,Je (by omega)]
     rw[this]
    rw[← p (λi=>if i=t then Qb k0 t else _) (λi h=>Je h) (Jf rfl)]
    by_cases h1:j=t*2+1
    ·subst h1;rw[Jf rfl,zaO,Jf rfl];simp[Qb];try omega
    rw[Je h1]
    by_cases k:j=t*2
    ·subst k;rw[Jf rfl,zaN,Jf rfl];simp[Qb];try omega
    rw[Je k];have o:j / 2≠t:=by omega
    unfold qL;simp only[Je o]
   case measure=>simp[intOf];omega
  ·obtain rfl:t=n:=by omega
   go_wp2;go_ret;refine⟨rfl,?_,r⟩;rw[zec (S':=λi=>if i<t then _ else S i) (λi y=>(Jf y).symm)]
   exact d
theorem zjr (a:Option Addr)(n c:Nat)(k0:Int)(w:World)(hn:n<=2097152)(h0:0<=k0)(h1:k0<=1000000000000000)(f:qw w a n (ZM k0)) :
  Calls prog 134 #[.slice a n c,int i64 k0] w λe w'=>e=.returned (int i64 (k0+4*n))/\w'=w:=by
 go_enter func134,ntmps134;go_wp2;go_loop [1,5] (λq i=>∃ t:Nat,t<=n/\i=int i64 t/\q=int i64 (k0+4*t)) (λ_ i=>n - (intOf i).toNat)
 case atStart=>exact⟨0,Jq _,rfl,by simp⟩
 case round =>
  obtain⟨t,ht,rfl,rfl⟩:=hrel
  by_cases hlt:t<n
  ·obtain⟨b,off,rfl,d,c1,c2,c3⟩:=f t hlt
   simp only[ZM] at d c1 c2 c3;go_wp2;go_round
   case rel=>exact⟨t+1,by omega,by go_num,by go_num⟩
   case measure=>simp[intOf];omega
  ·obtain rfl:t=n:=by omega
   go_wp2;go_ret;exact⟨rfl,rfl⟩
theorem zjs (a:Option Addr)(n c:Nat)(k0:Int)(w:World)(hn:n<=2097152)(h0:0<=k0)(h1:k0<=1000000000000000)(f:qp w a n (ZN k0)) :
  Calls prog 135 #[.slice a n c,int i64 k0] w λe w'=>e=.returned (int i64 (k0+4*n))/\w'=w:=by
 go_enter func135,ntmps135;go_wp2;go_loop [1,5] (λq i=>∃ t:Nat,t<=n/\i=int i64 t/\q=int i64 (k0+4*t)) (λ_ i=>n - (intOf i).toNat)
 case atStart=>exact⟨0,Jq _,rfl,by simp⟩
 case round =>
  obtain⟨t,ht,rfl,rfl⟩:=hrel
  by_cases hlt:t<n
  ·obtain⟨b,off,rfl,d,c1,c2,c3⟩:=f t hlt
   simp only[ZN] at d c1 c2 c3;rw[show k0+4*(t:Int)+3=k0+4*(t:Int)+1+1+1 by omega] at c3
   go_wp2;go_round
   case rel=>exact⟨t+1,by omega,by go_num,by go_num⟩
   case measure=>simp[intOf];omega
  ·obtain rfl:t=n:=by omega
   go_wp2;go_ret;exact⟨rfl,rfl⟩
theorem zjt (a:Option Addr)(n c:Nat)(k0:Int)(w:World)(hn:n<=2097152)(h0:0<=k0)(h1:k0<=1000000000000000)(f:qE w a n (Qb k0)) :
  Calls prog 136 #[.slice a n c,int i64 k0] w λe w'=>e=.returned (int i64 (k0+2*n))/\w'=w:=by
 go_enter func136,ntmps136;go_wp2;go_loop [1,5] (λq i=>∃ t:Nat,t<=n/\i=int i64 t/\q=int i64 (k0+2*t)) (λ_ i=>n - (intOf i).toNat)
 case atStart=>exact⟨0,Jq _,rfl,by simp⟩
 case round =>
  obtain⟨t,ht,rfl,rfl⟩:=hrel
  by_cases hlt:t<n
  ·obtain⟨b,off,rfl,d,c1⟩:=f t hlt
   simp only[Qb] at d c1;go_wp2;go_round
   case rel=>exact⟨t+1,by omega,by go_num,by go_num⟩
   case measure=>simp[intOf];omega
  ·obtain rfl:t=n:=by omega
   go_wp2;go_ret;exact⟨rfl,rfl⟩
end Go.Proofs.YtmdnjgihooflfaaGreatDoor

/-
  OWN TEXT: PlainSe, PlainOff, SpecNwO, FitS0, KitZ.
-/
import Derived.Deep.RegionHeld3
import Derived.Test.YtgmdnkngnhkgbaaGreatB13
import Derived.Test.YtgmdnkngnhkgbaaGreatB11
namespace Go.Proofs.YtgmdnkngnhkgbaaGreat
open Go.RowKit
open Go.Value (int)
open Go.IntKind (i64)
set_option maxHeartbeats 64000000
set_option maxRecDepth 100000
def ZG (S:Nat->Qo)(j:Nat):Int:=(S j).who
def ZD (S:Nat->Qo):Nat->Int
 | 0=>0
 | i+1=>ZD S i+(S i).many
def Z4 (most:Int)(n:Nat)(S:Nat->Qo):Prop :=
 In most 0 500/\n<=60/\(∀ i,i<n->In (S i).who 1 9999/\¬ Has (ZG S) i (S i).who/\In (S i).many 1 20)/\ZD S n<=most
theorem zaY (S:Nat->Qo)(i:Nat)(h:∀ j,j<i->In (S j).many 1 20):0<=ZD S i/\ZD S i<=20*i:=by
 induction i with
 | zero=>exact⟨Int.le_refl _,by unfold ZD;omega⟩
 | succ i ih =>
  have:=ih (fun j hj=>h j (by omega))
  have a:=h i (by omega)
  unfold In at a;unfold ZD
  omega
section
open Go.RowKit
def qi.p (b:qi):ZO:=⟨b.pe,b.len,b.hei,b.cl,b.all,b.be⟩
def zaZ (b:qi):Prop:=b.state=1∨b.state=2
instance (b:qi):Decidable (zaZ b):=by unfold zaZ;exact inferInstance
def HasLeg (b:qi)(x:Int):Prop:=∃ j,j<b.lgn/\b.lg j=x
def ZU (b:qi):Prop:=if b.state=1∨b.state=4 then In b.unt 0 10000 else b.unt=0
instance (b:qi):Decidable (ZU b):=by unfold ZU;exact inferInstance
def qv (o:Off)(i:Nat):Prop :=
 (o.bk i).name=i+1/\In (o.bk i).who 1 9999/\qr (o.bk i).own/\Qz o.san o.sa (o.bk i).lgn (o.bk i).lg/\qw (o.bk i).p/\In (o.bk i).state 1 4/\In (o.bk i).price 0 1000000 /\
  (∀ j,j<i->(o.bk j).who≠(o.bk i).who)/\ZU (o.bk i)
def zbs (x:qm)(b:qi)(n:Nat):Prop:=∃ j,j<n/\(x.se j).who=b.who/\(x.se j).many=b.pe
def zbt (x:qm)(b:qi)(n:Nat):Prop:=∃ j,j<n/\(x.st j).who=b.who/\(x.st j).len=b.len/\(x.st j).hei=b.hei
def zgu (s:Sail)(b:qi)(r:qH):Prop:=r.who=b.who/\r.all=b.all/\s.ca.A r.cab.toNat=b.cl/\(b.all=true∨r.many=b.be)
def zaC (s:Sail)(x:qm)(b:qi)(n:Nat):Prop:=∃ j,j<n/\zgu s b (x.ro j)
def QP (s:Sail)(x:qm)(b:qi):Prop:=zbs x b x.sen/\(b.len=0∨zbt x b x.stn)/\(b.cl=0∨zaC s x b x.ron)
open Classical in
/-- How many of the first n are so. -/
noncomputable def cnt (P:Nat->Prop):Nat->Nat
 | 0=>0
 | n+1=>cnt P n+(if P n then 1 else 0)
theorem Ze {P:Nat->Prop}{n:Nat}(h:P n):cnt P (n+1)=cnt P n+1:=by rw[cnt,if_pos h]
theorem Zu {P:Nat->Prop}{n:Nat}(h:¬ P n):cnt P (n+1)=cnt P n:=by rw[cnt,if_neg h];rfl
theorem zdB (P:Nat->Prop)(n:Nat):cnt P n<=n:=by
 induction n with
 | zero=>exact Nat.le_refl _
 | succ n ih =>
  by_cases h:P n
  ·rw[Ze h];omega
  ·rw[Zu h];omega
def zV (s:Sail)(x:qm):Prop:=DeckS s.la x.stn x.st/\qX s.ca x.ron x.ro/\Z4 s.most x.sen x.se
theorem zeZ {p:zP}{n:Nat}{S:Nat->qH}(h:qX p n S):∀ j,j<n->0<=(S j).cab/\(S j).cab<p.n:=fun j a=>by
 have:=(h.2.2.1 j a).1;unfold OkR0 In at this
 omega
def On (o:Off)(k i:Nat):Prop:=zaZ (o.bk i)/\HasLeg (o.bk i) (o.sa k).id
def Z5 (o:Off)(k:Nat):Prop :=
 (∀ i,i<o.bkn->On o k i->QP (o.sa k) (o.ld k) (o.bk i))/\(o.ld k).stn=cnt (fun i=>On o k i/\0<(o.bk i).len) o.bkn/\(o.ld k).ron=cnt (fun i=>On o k i/\0<(o.bk i).cl) o.bkn/\(o.ld k).sen=cnt (On o k) o.bkn
def ql (o:Off):Prop :=
 Z2 o.san o.sa/\o.ldn=o.san/\o.bkn<=30/\(∀ k,k<o.san->zV (o.sa k) (o.ld k))/\(∀ i,i<o.bkn->qv o i)/\∀ k,k<o.san->Z5 o k
end
def zfa:qm:=⟨0,fun _=>⟨0,0,0,0⟩,0,fun _=>⟨0,0,0,false⟩,0,fun _=>⟨0,0⟩⟩
def noBook:qi:=⟨0,0,⟨#[]⟩,0,fun _=>0,0,0,0,0,false,0,0,0,0⟩
def zdC (N:Nat)(S:Nat->Sail):Off:=⟨N,S,N,fun _=>zfa,0,fun _=>noBook⟩
def zdD:Nat->Value:=fun _=>.slice none 0 0
theorem made_ld (n:Nat):(madeCells (Value.agg #[.slice none 0 0,.slice none 0 0,.slice none 0 0]).cells (n*3)).toList=zaW zdD zdD zdD n:=by
 have a:(Value.agg #[.slice none 0 0,.slice none 0 0,.slice none 0 0]).cells=#[.slice none 0 0,.slice none 0 0,.slice none 0 0]:=rfl;rw[a];unfold zaW madeCells;rw[Array.toList_map,Array.toList_range];refine List.map_congr_left fun j _=>?_
 have:j % 3=0∨j % 3=1∨j % 3=2:=by omega
 unfold recCell ldC zdD
 rcases this with h|h|h <;> simp[h]
theorem zed (w:World)(base e size:Nat)(F:Nat->List Value)(h:F 0=[])(i:Nat):w.ownsRow base e size (zdD i) 0 (F 0):=by
 rw[h];exact⟨by simp,.inl ⟨rfl,rfl⟩⟩
theorem zee (N:Nat):FarV N zdD:=fun i j _ _ _ b h=>by simp[zdD,Value.ownBlock] at h
theorem lds_made {w:World}{base n:Nat}{v:Value}(h:w.ownsRow base 55 3 v n (zaW zdD zdD zdD n)):qz w base v n (fun _=>zfa) zdD zdD zdD :=
 ⟨h,fun i _=>zed w base 84 4 (fun k=>zN zfa.st k) rfl i,fun i _=>zed w base 93 4 (fun k=>zK zfa.ro k) rfl i,fun i _=>zed w base 99 2 (fun k=>zJ zfa.se k) rfl i,zee n,zee n,zee n⟩
theorem zcb {N:Nat}{S:Nat->Sail}{B:Nat}(a:N<=B)(c:ShortAll N S B):Off.Short (zdC N S) B :=
 ⟨⟨a,c⟩,⟨a,fun _ _=>⟨Nat.zero_le _,Nat.zero_le _,Nat.zero_le _⟩⟩,⟨Nat.zero_le _,fun _ b=>absurd b (Nat.not_lt_zero _)⟩⟩
theorem zdE {w:World}{g t:Nat}{u0 u1 u2:Value}(h:w.heap[g]?=some (.cells #[u0,u1,u2] t (0,0)))(c d e:Value) :
  (((w.setCell ⟨g,0,none⟩ c).setCell ⟨g,1,none⟩ d).setCell ⟨g,2,none⟩ e).heap[g]?=some (.cells #[c,d,e] t (0,0)):=by
 have a:(w.setCell ⟨g,0,none⟩ c).heap[g]?=some (.cells #[c,u1,u2] t (0,0)):=by simpa using zt h 0 c
 have b:((w.setCell ⟨g,0,none⟩ c).setCell ⟨g,1,none⟩ d).heap[g]?=some (.cells #[c,d,u2] t (0,0)):=by simpa using zt a 1 d
 simpa using zt b 2 e
def NewO (N:Nat)(S:Nat->Sail)(base:Nat)(e:Ending)(w:World):Prop :=
 ∃ a1 c1 a2 c2 a3 c3 M L C A B D E t,M<=N/\e=.returned (.tuple #[.agg #[.slice a1 M c1,.slice a2 M c2,.slice a3 0 c3],.bool t])/\zy w base (.slice a1 M c1) (.slice a2 M c2) (.slice a3 0 c3) M M 0 (zdC M S) L C A B D E
theorem zfb (r:Option Addr)(N c:Nat)(S:Nat->Sail)(w:World)(T:N<=1048576)(W:ShortAll N S 1048576)(Y:SailsAt w r N S) :
  Calls Tryz.prog 61 #[.slice r N c] w fun e w'=>NewO N S w.heap.size e w'/\Below w.heap.size w w':=by
 obtain⟨i0,hi,H,I,J⟩:=info_parts Tryz.infoLoadO;have Q:=hI W;have R:=hI Y;clear W Y;have i:Below w.heap.size w (w.alloc (.cells #[.slice none 0 0,.slice none 0 0,.slice none 0 0] 27)):=zl bZ _;have y:=heap_alloc_new w (.cells #[.slice none 0 0,.slice none 0 0,.slice none 0 0] 27);go_enter Tryz.func61,Tryz.ntmps61;go_wp2_with fail;generalize w.alloc (.cells #[.slice none 0 0,.slice none 0 0,.slice none 0 0] 27)=V at i y ⊢;refine(zcz r N c S _ T Q.out (R.out.below i)).mono ?_;rintro e X ⟨⟨t,rfl,ht⟩,m⟩;have g:=zb y m;have k:=zf i m;clear ht y i m
 cases t with
 | false =>
  obtain⟨r0,r1,r2⟩:=ce3 g;obtain⟨f0,f1,f2⟩:=fe3 g;go_wp2;have K:=zdE g (.slice none 0 0) (.slice none 0 0) (.slice none 0 0);obtain⟨M,O,P⟩:=ce3 K;exact bodyPost_ret (v:=.tuple #[.agg #[.slice none 0 0,.slice none 0 0,.slice none 0 0],.bool false]) (by simp[results,Tryz.results61,go_sem,M,O,P]) rfl ⟨⟨none,0,none,0,none,0,0,zdD,zdD,zdD,zdD,zdD,zdD,false,Nat.zero_le _,rfl,OwnSails.nil _ _ _ _ _,qz.nil _ _ _ _ _ _,qR.nil _ _ _ _⟩,((k.setCell (Nat.le_refl _) _).setCell (Nat.le_refl _) _).setCell (Nat.le_refl _) _⟩
 | true =>
 go_wp2_with (first|(at_make;refine wpList_make_full _ rfl _ _ 24 rfl 0 55 i0 _ 3 Tryz.underlying24 hi H I .i64 .i64 _ _ N rfl rfl rfl rfl (by rw[J];omega) (by unfold maxLen;omega) (Nat.zero_le _) ?_;intro Z d f))
 rw[made_ld] at d;have j:=(Below.refl X.heap.size X).grown f (Nat.le_refl _) (by simp)
 refine(QV r _ none N N 0 c N 0 (zdC N S) _ rfl rfl rfl (zcb T Q.out) (R.out.below (zf k j)) (qz.at (lds_made d)) (qR.at (qR.nil _ 0 _ zdD))).mono ?_;rintro e w2 ⟨⟨n,s,o,u,q,x,L,C,A,B,D,E,rfl,U⟩,l⟩;have h:=zb (zb g j) l;have F:=zf (zf k j) l;have a0:w.heap.size<Z.heap.size:=zQ (zb g j);have HO:=hI U;clear U l d f;obtain⟨r0,r1,r2⟩:=ce3 h;obtain⟨f0,f1,f2⟩:=fe3 h;go_wp2;have K:=zdE h (.slice n N s) (.slice o N u) (.slice q 0 x);obtain⟨M,O,P⟩:=ce3 K;have G:=((((zA.refl _ (fun b=>b=w.heap.size)).set (a:=⟨w.heap.size,0,none⟩) rfl (.slice n N s)).set (a:=⟨w.heap.size,1,none⟩) rfl (.slice o N u)).set (a:=⟨w.heap.size,2,none⟩) rfl (.slice q 0 x):zA w2 _ _)
 have z:=(HO.out.box G h (by decide)).lower (by omega:w.heap.size<=Z.heap.size)
 exact bodyPost_ret (v:=.tuple #[.agg #[.slice n N s,.slice o N u,.slice q 0 x],.bool true]) (by simp[results,Tryz.results61,go_sem,M,O,P]) rfl ⟨⟨n,s,o,u,q,x,N,L,C,A,B,D,E,true,Nat.le_refl _,rfl,z⟩,((F.setCell (p:=⟨w.heap.size,0,none⟩) (Nat.le_refl _) _).setCell (p:=⟨w.heap.size,1,none⟩) (Nat.le_refl _) _).setCell (p:=⟨w.heap.size,2,none⟩) (Nat.le_refl _) _⟩
theorem Zr (m:Option Addr)(N c:Nat)(S:Nat->Sail)(x:Int)(w:World)(hN:N<=1048576)(z:SailsAt w m N S) :
  Calls Tryz.prog 87 #[.slice m N c,int i64 x] w fun e w'=>((zH S x N<N/\e=.returned (int i64 (zH S x N)))∨(zH S x N=N/\e=.returned (int i64 (-1))))/\Below w.heap.size w w':=by
 go_enter Tryz.func87,Tryz.ntmps87;go_wp2;go_loopw [5,6,9] (fun _ _ i wr=>∃ k:Nat,k<=N/\i=int i64 k/\(∀ j,j<k->(S j).id≠x)/\Below w.heap.size w wr) (fun _ _ i _=>N - (intOf i).toNat)
 case atStart=>exact⟨0,Nat.zero_le _,rfl,fun j y=>by omega,bZ⟩
 case round =>
  obtain⟨k,hk,rfl,d,a⟩:=hrel;have h:=hI d;clear d
  by_cases hlt:k<N
  ·obtain⟨b,off,la,lc,ca,cc,rfl,n,l,o,q,r,s,t,h7,_,_,_,_⟩:=z k hlt
   have f:=World.block_lt_of_cell? w _ l;have c0:=(a.cell (p:=⟨b,off+k*8,none⟩) f).trans n;have c1:=(a.cell (p:=⟨b,off+k*8+1,none⟩) f).trans l;have c2:=(a.cell (p:=⟨b,off+k*8+2,none⟩) f).trans o;have c3:=(a.cell (p:=⟨b,off+k*8+3,none⟩) f).trans q;have c4:=(a.cell (p:=⟨b,off+k*8+4,none⟩) f).trans r;have c5:=(a.cell (p:=⟨b,off+k*8+5,none⟩) f).trans s;have c6:=(a.cell (p:=⟨b,off+k*8+6,none⟩) f).trans t;have c7:=(a.cell (p:=⟨b,off+k*8+7,none⟩) f).trans h7;clear n l o q r s t h7
   by_cases he:(S k).id=x
   ·have v:((S k).id == x)=true:=by simpa using he
    have g:=hI (zeT hlt he h.out);clear he;go_wp2;go_ret;exact⟨.inl ⟨by rw[g.out];exact hlt,by rw[g.out];rfl⟩,zl a _⟩
   ·have v:((S k).id == x)=false:=by simpa using he
    have u:=hI he;clear he;go_wp2;go_roundw
    case rel=>exact⟨k+1,by omega,by go_num,fun j y=>by
     by_cases e:j=k
     ·subst e;exact u.out
     ·exact h.out j (by omega),zl a _⟩
    case measure=>simp[intOf];omega
  ·obtain rfl:k=N:=by omega
   have g:=hI (zcA h.out);go_wp2;go_ret;exact⟨.inr ⟨g.out,rfl⟩,a⟩
theorem zcF (F P:Option Addr)(N n c c':Nat)(S:Nat->Sail)(G:Nat->Int)(w:World)(hN:N<=1048576)(hn:n<=1048576)(H:SailsAt w F N S)(hy:zX w P n G) :
  Calls Tryz.prog 54 #[.slice F N c,.slice P n c'] w fun e w'=>SaysIf (Qz N S n G) e/\Below w.heap.size w w':=by
 by_cases o:In (n:Int) 1 3
 case neg =>
  have d3:decide (In (n:Int) 1 3)=false:=decide_eq_false o;have HN:Hid (¬ Qz N S n G):=fun h=>o ⟨by have:=h.1;omega,by have:=h.2.1;omega⟩
  clear o;go_enter Tryz.func54,Tryz.ntmps54;go_wp2_with (first|(go_at_call 45;refine sC (zo _ _ _ _) ?_))
  go_ret;exact⟨zk HN.out,bZ⟩
 have d3:decide (In (n:Int) 1 3)=true:=decide_eq_true o;have J:Hid (1<=n/\n<=3):=⟨by have:=o.1;omega,by have:=o.2;omega⟩
 have a5:n<=3:=J.out.2;clear o;go_enter Tryz.func54,Tryz.ntmps54;go_wp2_with (first|(go_at_call 45;refine sC (zo _ _ _ _) ?_))
 go_loopw [5,6,7,8,15] (fun _ _ _ _ i wr=>∃ k:Nat,k<=n/\i=int i64 k/\(∀ j,j<k->zfQ N S G j)/\Below w.heap.size w wr) (fun _ _ _ _ i _=>n - (intOf i).toNat)
 case atStart=>exact⟨0,Nat.zero_le _,rfl,fun j hj=>by omega,bZ⟩
 case round =>
  obtain⟨k,hk,rfl,r,f⟩:=hrel;have K:=hI r;clear r d3
  by_cases hlt:k<n
  ·have V:Hid (0<k->∀ b off,P=some ⟨b,off,none⟩->w.cell? ⟨b,off+(k - 1),none⟩=some (int i64 (G (k - 1)))):=by
    intro h b off e;obtain⟨b',E,A,g⟩:=hy (k - 1) (by omega)
    rw[e] at A;simp only[Option.some.injEq,Addr.mk.injEq,and_true] at A;obtain⟨rfl,rfl⟩:=A;exact g
   obtain⟨I,l,rfl,T⟩:=hy k hlt;have L:Hid (0<k->w.cell? ⟨I,l+(k - 1),none⟩=some (int i64 (G (k - 1)))):=fun h=>V.out h I l rfl
   clear V;have D:=World.block_lt_of_cell? w _ T;have p0:=(f.cell (p:=⟨I,l+k,none⟩) D).trans T;clear T;go_wp2_with fail;refine(Zr F N c S (G k) _ hN (H.below f)).mono ?_;rintro e w2 ⟨U,B⟩;have d:=zf f B;clear B f p0
   rcases U with⟨t,rfl⟩|⟨t,rfl⟩
   ·obtain⟨x,v⟩:∃ x,x=zH S (G k) N:=⟨_,rfl⟩
    rw[← v] at t ⊢;have W:=hI v;clear v
    by_cases k0:k=0
    ·subst k0
     have Q:decide ((x:Int)<0)=false:=by simp
     go_wp2;go_roundw
     case rel=>exact⟨1,by omega,by go_num,fun j hj=>by
      obtain rfl:j=0:=by omega
      exact⟨by rw[← W.out];exact t,fun h=>by omega⟩,d⟩
     case measure=>simp[intOf];omega
    ·have Q:decide ((x:Int)<0)=false:=by simp
     have d0:decide (0<k)=true:=by simp;omega
     have a0:((k:Int) - 1).toNat=k - 1:=by omega
     have a1:(k:Int) - 1<(n:Int):=by omega
     have a2:(0:Int)<=(k:Int) - 1:=by omega
     have a3:IntKind.i64.wrap ((k:Int) - 1)=(k:Int) - 1:=by rw[IntKind.wrap_i64];omega
     have y0:=(d.cell (p:=⟨I,l+(k - 1),none⟩) D).trans (L.out (by omega))
     go_wp2_with fail;refine(Zr F N c S (G (k - 1)) _ hN (H.below d)).mono ?_;rintro e w3 ⟨U,C⟩;have a:=zf d C;have HP:Hid (zH S (G (k - 1)) N<N):=(K.out (k - 1) (by omega)).1
     clear C d y0 Q d0
     rcases U with⟨u,rfl⟩|⟨u,rfl⟩
     ·obtain⟨y,z⟩:∃ y,y=zH S (G (k - 1)) N:=⟨_,rfl⟩
      rw[← z] at u ⊢;have HY:=hI z;clear z;have x1:(x:Int)<(N:Int):=by omega
      have x0:(0:Int)<=(x:Int):=by omega
      have y1:(y:Int)<(N:Int):=by omega
      have y0:(0:Int)<=(y:Int):=by omega
      have M:=H x t;obtain⟨b,off,la,lc,ca,cc,rfl,Y,R,Z,h3,h4,h5,h6,h7,_,_,_,_⟩:=H y u;obtain⟨b',E,_,_,_,_,A,g0,X,g2,o,_⟩:=M;simp only[Option.some.injEq,Addr.mk.injEq,and_true] at A;obtain⟨rfl,rfl⟩:=A;have q:=World.block_lt_of_cell? w _ R;have c0:=(a.cell (p:=⟨b,off+y*8,none⟩) q).trans Y;have c1:=(a.cell (p:=⟨b,off+y*8+1,none⟩) q).trans R;have c2:=(a.cell (p:=⟨b,off+y*8+2,none⟩) q).trans Z;have c3:=(a.cell (p:=⟨b,off+y*8+3,none⟩) q).trans h3;have c4:=(a.cell (p:=⟨b,off+y*8+4,none⟩) q).trans h4;have c5:=(a.cell (p:=⟨b,off+y*8+5,none⟩) q).trans h5;have c6:=(a.cell (p:=⟨b,off+y*8+6,none⟩) q).trans h6;have c7:=(a.cell (p:=⟨b,off+y*8+7,none⟩) q).trans h7;have m:=zl a (.cells #[int i64 (S y).id,.string (S y).fr,.string (S y).dst,int i64 (S y).dep,int i64 (S y).arr,.slice la (S y).la.n lc,.slice ca (S y).ca.n cc,int i64 (S y).most] 33);have q1:=(m.cell (p:=⟨b,off+x*8+1,none⟩) q).trans X;have q3:=(m.cell (p:=⟨b,off+x*8+3,none⟩) q).trans o;clear Y R Z h3 h4 h5 h6 h7 g0 X g2 o;have s:Hid (((S y).dst=(S x).fr/\(S y).arr<=(S x).dep)↔zfQ N S G k):=by
       unfold zfQ;rw[← W.out,← HY.out];exact⟨fun h=>⟨t,fun _=>h⟩,fun h=>h.2 (by omega)⟩
      by_cases m1:(S y).dst=(S x).fr
      ·have e1:((S y).dst.toList == (S x).fr.toList)=true:=zbl.2 m1
       have O:=hI m1;clear m1
       by_cases m2:(S y).arr<=(S x).dep
       ·have e2:decide ((S x).dep<(S y).arr)=false:=by simpa using m2
        go_wp2;go_quiet (fail);go_wp2;go_roundw
        case rel=>exact⟨k+1,by omega,by go_num,fun j hj=>by
         by_cases e:j=k
         ·subst e;exact s.out.1 ⟨O.out,m2⟩
         ·exact K.out j (by omega),dN m _⟩
        case measure=>simp[intOf];omega
       ·have e2:decide ((S x).dep<(S y).arr)=true:=by simpa using m2
        go_wp2;go_quiet (fail);go_wp2;go_ret;exact⟨zk (fun h=>by have:=(s.out.2 (h.2.2 k hlt)).2;omega),dN m _⟩
      ·have e1:((S y).dst.toList == (S x).fr.toList)=false:=zcp.2 m1
       have O:=hI m1;clear m1;go_wp2;go_quiet (fail);go_wp2;go_ret;exact⟨zk (fun h=>O.out (s.out.2 (h.2.2 k hlt)).1),dN m _⟩
     ·exfalso
      have:=HP.out
      omega
   ·have Q:decide ((-1:Int)<0)=true:=rfl
    have HF:=hI t;clear t;go_wp2;go_ret;exact⟨zk (fun h=>by have:=(h.2.2 k hlt).1;have:=HF.out;omega),d⟩
  ·obtain rfl:k=n:=by omega
   go_wp2;go_ret;exact⟨zI ⟨J.out.1,J.out.2,K.out⟩,f⟩
section
open Go.RowKit
section
variable {P : Program} {ops : Array Oper} {Q : Exit -> Act -> World -> Prop} {md : Region.Mode} {S : World -> Prop} {z : Nat}
def Zk (P:Program)(c:Region.Mode)(b:Array Oper)(Q:Exit->Act->World->Prop)(S:World->Prop)(z:Nat):Nat->Array Bool->Act->World->Prop
 | 0,listed,a,w=>Region.ready c b listed=[]/\Q .normal a w
 | fuel+1,listed,a,w =>
  (Region.ready c b listed=[]->Q .normal a w) /\
  ∀ i ∈ Region.ready c b listed,wpOp P b Q i (fun d w'=>(i≠z->S w')/\Zk P c b Q S z fuel (listed.setIfInBounds i true) d w') a w
theorem zdF:∀ (b:Nat)(c:Array Bool)(a:Act)(w:World),Zk P md ops Q S z b c a w->wpAny P md ops Q b c a w
 | 0,_,_,_,h=>h
 | b+1,_,_,_,h=>⟨h.1,fun i f=>wpOp_mono (fun d w' e=>zdF b _ d w' e.2) (h.2 i f)⟩
def zcG (b:Region.Mode)(a:Array Oper)(z:Nat):Bool :=
 (List.range a.size).all fun j=>j == z || (List.range a.size).any fun s=>decide (j<s) && ((a[s]?).map fun o=>o.after.any fun e=>Region.binds b e && e.on == j).getD false
def shutB (c:Region.Mode)(b:Array Oper)(a:Array Bool):Bool :=
 (List.range b.size).all fun s=>!a.getD s false || ((b[s]?).map fun o=>o.after.all fun e=>!Region.binds c e || a.getD e.on false).getD true
def ShutL (c:Region.Mode)(b:Array Oper)(a:Array Bool):Prop :=
 ∀ s o,b[s]?=some o->a.getD s false=true->∀ e ∈ o.after,Region.binds c e=true->a.getD e.on false=true
theorem shut_of {a:Array Bool}(h:shutB md ops a=true):ShutL md ops a:=fun s o f hl e i g=>by
 unfold shutB at h;rw[List.all_eq_true] at h;have c:s<ops.size:=(Array.getElem?_eq_some_iff.1 f).1;have b:=h s (List.mem_range.2 c);rw[hl,f] at b;simp only[Bool.not_true,Bool.false_or,Option.map_some,Option.getD_some,Array.all_eq_true_iff_forall_mem] at b;have d:=b e i;rw[g] at d
 simpa using d
theorem shut_set {a:Array Bool}{i:Nat}(h:ShutL md ops a)(k:i ∈ Region.ready md ops a):ShutL md ops (a.setIfInBounds i true):=fun s o j hl e g f=>by
 by_cases c:i=s
 ·subst c
  obtain⟨_,o',d,b⟩:=mem_ready.1 k;rw[j] at d
  cases d
  exact getD_set_true (b e g f)
 ·rw[getD_set_ne false c] at hl
  exact getD_set_true (h s o j hl e g f)
theorem zgI {a:Array Bool}(k:zcG md ops z=true)(hz:z+1=ops.size)(u:ShutL md ops a)(t:z ∈ Region.ready md ops a):∀ m j,j+m=z->j≠z->a.getD j false=true:=by
 intro m
 induction m using Nat.strongRecOn with
 | ind m ih =>
  intro j q p;unfold zcG at k;rw[List.all_eq_true] at k;have d:=k j (List.mem_range.2 (by omega))
  rw[Bool.or_eq_true] at d
  rcases d with d|d
  ·exact absurd (by simpa using d) p
  ·rw[List.any_eq_true] at d
   obtain⟨s,i,f⟩:=d;rw[Bool.and_eq_true] at f;have r:j<s:=by simpa using f.1
   have v:s<ops.size:=List.mem_range.1 i
   cases ho:ops[s]? with
   | none=>rw[ho] at f;simp at f
   | some o =>
    rw[ho] at f;simp only[Option.map_some,Option.getD_some,Array.any_eq_true',Bool.and_eq_true] at f;obtain⟨_,e,n,l,b⟩:=f;have b:e.on=j:=by simpa using b
    by_cases c:s=z
    ·subst c
     obtain⟨_,o',h,g⟩:=mem_ready.1 t;rw[ho] at h
     cases h
     rw[← b];exact g e n l
    ·have:=ih (z - s) (by omega) s (by omega) c
     rw[← b];exact u s o ho this e n l
theorem zfc {i:Nat}{t:Oper}{v:Value}(G:ops[i]?=some t)(K:i≠z)(Y:zcG md ops z=true)(Z:z+1=ops.size)(q:∀ (j:Nat)(o:Oper) cs b,ops[j]?=some o->o.op≠.select cs b)
  (T:∀ c a w,Q (.panic c) (a.put t.dst v) w->Q (.panic c) a w) :
  ∀ (f:Nat) (d:Array Bool) (a:Act) (w:World),ShutL md ops d ->
   (∀ j u,ops[j]?=some u->j≠i->d.getD j true=false->(∀ e ∈ u.after,Region.binds md e=true->e.on≠i)->t.apart ops u=true) ->
   i ∈ Region.ready md ops d->YieldsIf P ops S t v a->S w ->
   Zk P md ops Q S z f (d.setIfInBounds i true) (a.put t.dst v) w->Zk P md ops Q S z (f+1) d a w:=by
 intro f
 induction f with
 | zero =>
  intro d a w _ _ p I A H;refine⟨fun h=>(by rw[h] at p;cases p),fun j x=>?_⟩
  by_cases hji:j=i
  ·subst hji;exact I.wpOp G A ⟨fun _=>A,H⟩
  ·have:=ready_mono x hji
   rw[H.1] at this
   cases this
 | succ f ih =>
  intro d a w D l p I A H;refine⟨fun h=>(by rw[h] at p;cases p),fun j x=>?_⟩
  by_cases hji:j=i
  ·subst hji;exact I.wpOp G A ⟨fun _=>A,H⟩
  ·have L:j≠z:=fun e=>by
    subst e;have X:i<ops.size:=(Array.getElem?_eq_some_iff.1 G).1;have g:=zgI Y Z D x (j - i) i (by omega) K
    have y:=(mem_ready.1 p).1
    rcases Nat.lt_or_ge i d.size with r|r
    ·simp[r] at y g;rw[y] at g;cases g
    ·simp[Array.getElem?_eq_none r] at g
   have g:=H.2 j (ready_mono x hji);obtain⟨n,u,s,B⟩:=mem_ready.1 x;have C:∀ e ∈ u.after,Region.binds md e=true->e.on≠i:=fun e V U J=>by
    have g:=B e V U;have y:=(mem_ready.1 p).1;rw[J] at g
    rcases Nat.lt_or_ge i d.size with r|r
    ·simp[r] at y g;rw[y] at g;cases g
    ·simp[Array.getElem?_eq_none r] at g
   have R:=wpOp_putIf s (l j u s hji n C) (fun cs b=>q i t cs b G) (fun cs b=>q j u cs b s) T I g
   have m:∀ k ok,ops[k]?=some ok->k≠i->(d.setIfInBounds j true).getD k true=false ->
     (∀ e ∈ ok.after,Region.binds md e=true->e.on≠i)->t.apart ops ok=true:=fun k ok W M E N=>by
    refine l k ok W M ?_ N
    by_cases hjk:j=k
    ·subst hjk;exact n
    ·rw[getD_set_ne true hjk] at E;exact E
   refine wpOp_mono (fun O w' F=>⟨F.2.1,ih (d.setIfInBounds j true) O w' (shut_set D x) m (ready_mono p (Ne.symm hji)) F.1 (F.2.1 L) ?_⟩) R
   rw[Array.setIfInBounds_comm _ _ hji];exact F.2.2
theorem zfU {i:Nat}{f:Oper}{v:Value}{d:Nat}{b:Array Bool}{a:Act}{w:World}(g:ops[i]?=some f)
  (n:Region.noSelect ops=true) (l:Region.free md ops b i=true) (m:(Region.ready md ops b).contains i=true) (e:(!(i == z) && zcG md ops z && shutB md ops b && (z+1 == ops.size))=true)
  (j:∀ c a w,Q (.panic c) (a.put f.dst v) w->Q (.panic c) a w) (o:YieldsIf P ops S f v a) (k:S w)
  (h:Zk P md ops Q S z d (b.setIfInBounds i true) (a.put f.dst v) w):Zk P md ops Q S z (d+1) b a w:=by
 simp only[Bool.and_eq_true,Bool.not_eq_true',beq_eq_false_iff_ne,ne_eq,beq_iff_eq] at e;exact zfc g e.1.1.1 e.1.1.2 e.2 (Region.noSelect_spec n) j d b a w (shut_of e.1.2) (Region.free_spec g l) (by simpa using m) o k h
def zd (P:Program)(f:Region.Mode)(d:Array Oper)(Q:Exit->Act->World->Prop)(S:World->Prop)(z c:Nat)(b:Array Bool)(a:Act)(w:World)(rs:List Nat):Prop :=
 ∀ i ∈ rs,wpOp P d Q i (fun e w'=>(i≠z->S w')/\Zk P f d Q S z c (b.setIfInBounds i true) e w') a w
theorem zd.nil {c:Nat}{b:Array Bool}{a:Act}{w:World}:zd P md ops Q S z c b a w []:=fun _ h=>by cases h
theorem zd.cons {c:Nat}{b:Array Bool}{a:Act}{w:World}{i:Nat}{o:Oper}{rs:List Nat}(l:ops[i]?=some o)
  (h:∀ d:Act->World->Prop,Shut (∀ a w,S w->(S w->Zk P md ops Q S z c (b.setIfInBounds i true) a w)->d a w)->if Region.wanted o (yielded ops a.tmps)=true then Oper.wp P o a w d Q else d (a.put o.dst undef) w)
  (m:zd P md ops Q S z c b a w rs):zd P md ops Q S z c b a w (i :: rs):=fun j e=>by
 rcases List.mem_cons.1 e with rfl|e
 ·exact wpOp_step l (fun d g=>h d (fun a w f k=>g a w ⟨fun _=>f,k f⟩))
 ·exact m j e
theorem zd.last {c:Nat}{b:Array Bool}{a:Act}{w:World}{o:Oper}(k:ops[z]?=some o)
  (h:∀ d:Act->World->Prop,Shut (∀ a w,Zk P md ops Q S z c (b.setIfInBounds z true) a w->d a w)->if Region.wanted o (yielded ops a.tmps)=true then Oper.wp P o a w d Q else d (a.put o.dst undef) w):zd P md ops Q S z c b a w [z]:=fun j f=>by
 rcases List.mem_cons.1 f with rfl|f
 ·exact wpOp_step k (fun d g=>h d (fun a w i=>g a w ⟨fun e=>absurd rfl e,i⟩))
 ·cases f
theorem zj {rs:List Nat}{c:Nat}{b:Array Bool}{a:Act}{w:World}(e:Region.ready md ops b=rs)(d:rs≠[])
  (h:zd P md ops Q S z c b a w rs):Zk P md ops Q S z (c+1) b a w :=
 ⟨fun f=>absurd (e ▸ f) d,e ▸ h⟩
theorem qd {b:Array Bool}{a:Act}{w:World}(d:Region.ready md ops b=[])(h:Q .normal a w):∀ fuel,Zk P md ops Q S z fuel b a w
 | 0=>⟨d,h⟩
 | _+1=>⟨fun _=>h,fun i c=>by rw[d] at c;cases c⟩
theorem qt {id:Nat}{a:Act}{w:World}(z n:Nat)(S:World->Prop)(hn:ops.size=n)(c:P.follows .mixedOrders=true)(b:S w.drew)
  (h:S w.drew->Zk P .any ops Q S z n (List.replicate n false).toArray a w.drew):(Code.region id ops true).wp P Q a w:=by
 subst hn;exact wp_region_any c (zdF _ _ _ _ (by simpa using h b))
end
section
variable {P : Program} {l : List Oper} {Q : Exit -> Act -> World -> Prop} {md : Region.Mode} {S : World -> Prop} {z : Nat}
theorem zfd {i:Nat}{f:Oper}{v:Value}{d:Nat}{b:List Bool}{a:Act}{w:World}(k:l[i]?=some f)
  (e:(Region.noSelect l.toArray && Region.free md l.toArray b.toArray i && (Region.ready md l.toArray b.toArray).contains i && (!(i == z) && zcG md l.toArray z && shutB md l.toArray b.toArray && (z+1 == l.toArray.size)))=true)
  (g:∀ c a w,Q (.panic c) (a.put f.dst v) w->Q (.panic c) a w) (m:YieldsIf P l.toArray S f v a) (j:S w)
  (h:Zk P md l.toArray Q S z d (b.set i true).toArray (a.put f.dst v) w):Zk P md l.toArray Q S z (d+1) b.toArray a w:=by
 rw[Bool.and_eq_true,Bool.and_eq_true,Bool.and_eq_true] at e;exact zfU (i:=i) (by simpa using k) e.1.1.1 e.1.1.2 e.1.2 e.2 g m j (by simpa using h)
theorem zd.consL {c:Nat}{b:List Bool}{a:Act}{w:World}{i:Nat}{o:Oper}{rs:List Nat}(j:l[i]?=some o)
  (h:∀ d:Act->World->Prop,Shut (∀ a w,S w->(S w->Zk P md l.toArray Q S z c (b.set i true).toArray a w)->d a w)->if Region.wanted o (yielded l.toArray a.tmps)=true then Oper.wp P o a w d Q else d (a.put o.dst undef) w)
  (k:zd P md l.toArray Q S z c b.toArray a w rs):zd P md l.toArray Q S z c b.toArray a w (i :: rs) :=
 zd.cons (by simpa using j) (fun d f=>h d (fun a w e g=>f a w e (fun e=>by simpa using g e))) k
theorem zd.lastL {c:Nat}{b:List Bool}{a:Act}{w:World}{o:Oper}(g:l[z]?=some o)
  (h:∀ d:Act->World->Prop,Shut (∀ a w,Zk P md l.toArray Q S z c (b.set z true).toArray a w->d a w)->if Region.wanted o (yielded l.toArray a.tmps)=true then Oper.wp P o a w d Q else d (a.put o.dst undef) w):zd P md l.toArray Q S z c b.toArray a w [z] :=
 zd.last (by simpa using g) (fun d e=>h d (fun a w f=>e a w (by simpa using f)))
end
theorem tkL {P:Program}{l:List Oper}{Q:Exit->Act->World->Prop}{e:Region.Mode}{S:World->Prop}{z:Nat}(i:Nat){f:Oper}{v:Value}{d:Nat}{b:List Bool}{a:Act}{w:World}(k:l[i]?=some f)
  (m:(Region.noSelect l.toArray && Region.free e l.toArray b.toArray i && (Region.ready e l.toArray b.toArray).contains i && (!(i == z) && zcG e l.toArray z && shutB e l.toArray b.toArray && (z+1 == l.toArray.size)))=true)
  (g:∀ c a w,Q (.panic c) (a.put f.dst v) w->Q (.panic c) a w) (n:Region.wanted f (yielded l.toArray a.tmps)=true) (j:S w) (o:∀ w,S w->(execOp a.eval f).run P w=.ok (.value v) w)
  (h:Zk P e l.toArray Q S z d (b.set i true).toArray (a.put f.dst v) w):Zk P e l.toArray Q S z (d+1) b.toArray a w:=zfd k m g (Or.inl ⟨n,o⟩) j h
end
end Go.Proofs.YtgmdnkngnhkgbaaGreat

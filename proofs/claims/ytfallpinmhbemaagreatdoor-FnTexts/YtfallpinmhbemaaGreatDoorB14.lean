/-
  OWN TEXT: PlainSe, PlainOff, SpecNwO, FitS0, KitZ.
-/
import Derived.Deep.RegionHeld3
import Derived.Test.YtfallpinmhbemaaGreatDoorB13
import Derived.Test.YtfallpinmhbemaaGreatDoorB11
namespace Go.Proofs.YtfallpinmhbemaaGreatDoor
open Go.RowKit
open Go.Value (int)
open Go.IntKind (i64)
set_option maxHeartbeats 64000000
set_option maxRecDepth 100000
def zaU (S:Nat->zaf)(j:Nat):Int:=(S j).who
def zbE (S:Nat->zaf):Nat->Int
 | 0=>0
 | i+1=>zbE S i+(S i).many
def zbb (most:Int)(n:Nat)(S:Nat->zaf):Prop :=
 In most 0 500/\n<=60/\(∀ i,i<n->In (S i).who 1 9999/\¬ Has (zaU S) i (S i).who/\In (S i).many 1 20)/\zbE S n<=most
theorem zdg (S:Nat->zaf)(i:Nat)(h:∀ j,j<i->In (S j).many 1 20):0<=zbE S i/\zbE S i<=20*i:=by
 induction i with
 | zero=>exact⟨Int.le_refl _,by unfold zbE;omega⟩
 | succ i ih =>
  have:=ih (fun j hj=>h j (by omega))
  have a:=h i (by omega)
  unfold In at a;unfold zbE
  omega
section
open Go.RowKit
def ZK.p (b:ZK):Zf:=⟨b.pe,b.len,b.hei,b.cl,b.all,b.be⟩
def zee (b:ZK):Prop:=b.state=1∨b.state=2
instance (b:ZK):Decidable (zee b):=by unfold zee;exact inferInstance
def HasLeg (b:ZK)(x:Int):Prop:=∃ j,j<b.lgn/\b.lg j=x
def Q9 (b:ZK):Prop:=if b.state=1∨b.state=4 then In b.unt 0 10000 else b.unt=0
instance (b:ZK):Decidable (Q9 b):=by unfold Q9;exact inferInstance
def Zx (o:Off)(i:Nat):Prop :=
 (o.bk i).name=i+1/\In (o.bk i).who 1 9999/\qK (o.bk i).own/\zba o.san o.sa (o.bk i).lgn (o.bk i).lg/\qI (o.bk i).p/\In (o.bk i).state 1 4/\In (o.bk i).price 0 1000000 /\
  (∀ j,j<i->(o.bk j).who≠(o.bk i).who)/\Q9 (o.bk i)
def zbN (x:qT)(b:ZK)(n:Nat):Prop:=∃ j,j<n/\(x.se j).who=b.who/\(x.se j).many=b.pe
def zbO (x:qT)(b:ZK)(n:Nat):Prop:=∃ j,j<n/\(x.st j).who=b.who/\(x.st j).len=b.len/\(x.st j).hei=b.hei
def zhF (s:Sail)(b:ZK)(r:ZF):Prop:=r.who=b.who/\r.all=b.all/\s.ca.A r.cab.toNat=b.cl/\(b.all=true∨r.many=b.be)
def zbc (s:Sail)(x:qT)(b:ZK)(n:Nat):Prop:=∃ j,j<n/\zhF s b (x.ro j)
def zbd (s:Sail)(x:qT)(b:ZK):Prop:=zbN x b x.sen/\(b.len=0∨zbO x b x.stn)/\(b.cl=0∨zbc s x b x.ron)
open Classical in
/-- How many of the first n are so. -/
noncomputable def cnt (P:Nat->Prop):Nat->Nat
 | 0=>0
 | n+1=>cnt P n+(if P n then 1 else 0)
theorem zag {P:Nat->Prop}{n:Nat}(h:P n):cnt P (n+1)=cnt P n+1:=by rw[cnt,if_pos h]
theorem zaQ {P:Nat->Prop}{n:Nat}(h:¬ P n):cnt P (n+1)=cnt P n:=by rw[cnt,if_neg h];rfl
theorem cnt_le (P:Nat->Prop)(n:Nat):cnt P n<=n:=by
 induction n with
 | zero=>exact Nat.le_refl _
 | succ n ih =>
  by_cases h:P n
  ·rw[zag h];omega
  ·rw[zaQ h];omega
def qJ (s:Sail)(x:qT):Prop:=DeckS s.la x.stn x.st/\QL s.ca x.ron x.ro/\zbb s.most x.sen x.se
theorem rooms_cab {p:qi}{n:Nat}{S:Nat->ZF}(h:QL p n S):∀ j,j<n->0<=(S j).cab/\(S j).cab<p.n:=fun j a=>by
 have:=(h.2.2.1 j a).1;unfold OkR0 In at this
 omega
def On (o:Off)(k i:Nat):Prop:=zee (o.bk i)/\HasLeg (o.bk i) (o.sa k).id
def zcl (o:Off)(k:Nat):Prop :=
 (∀ i,i<o.bkn->On o k i->zbd (o.sa k) (o.ld k) (o.bk i))/\(o.ld k).stn=cnt (fun i=>On o k i/\0<(o.bk i).len) o.bkn/\(o.ld k).ron=cnt (fun i=>On o k i/\0<(o.bk i).cl) o.bkn/\(o.ld k).sen=cnt (On o k) o.bkn
def Zy (o:Off):Prop :=
 zch o.san o.sa/\o.ldn=o.san/\o.bkn<=30/\(∀ k,k<o.san->qJ (o.sa k) (o.ld k))/\(∀ i,i<o.bkn->Zx o i)/\∀ k,k<o.san->zcl o k
end
def zfR:qT:=⟨0,fun _=>⟨0,0,0,0⟩,0,fun _=>⟨0,0,0,false⟩,0,fun _=>⟨0,0⟩⟩
def noBook:ZK:=⟨0,0,⟨#[]⟩,0,fun _=>0,0,0,0,0,false,0,0,0,0⟩
def zef (N:Nat)(S:Nat->Sail):Off:=⟨N,S,N,fun _=>zfR,0,fun _=>noBook⟩
def zeg:Nat->Value:=fun _=>.slice none 0 0
theorem made_ld (n:Nat):(madeCells (Value.agg #[.slice none 0 0,.slice none 0 0,.slice none 0 0]).cells (n*3)).toList=zbx zeg zeg zeg n:=by
 have a:(Value.agg #[.slice none 0 0,.slice none 0 0,.slice none 0 0]).cells=#[.slice none 0 0,.slice none 0 0,.slice none 0 0]:=rfl;rw[a];unfold zbx madeCells;rw[Array.toList_map,Array.toList_range];refine List.map_congr_left fun j _=>?_
 have:j % 3=0∨j % 3=1∨j % 3=2:=by omega
 unfold recCell ldC zeg
 rcases this with h|h|h <;> simp[h]
theorem zeL (w:World)(base e size:Nat)(F:Nat->List Value)(h:F 0=[])(i:Nat):w.ownsRow base e size (zeg i) 0 (F 0):=by
 rw[h];exact⟨by simp,.inl ⟨rfl,rfl⟩⟩
theorem zeM (N:Nat):FarV N zeg:=fun i j _ _ _ b h=>by simp[zeg,Value.ownBlock] at h
theorem lds_made {w:World}{base n:Nat}{v:Value}(h:w.ownsRow base 136 3 v n (zbx zeg zeg zeg n)):Zb w base v n (fun _=>zfR) zeg zeg zeg :=
 ⟨h,fun i _=>zeL w base 186 4 (fun k=>zX zfR.st k) rfl i,fun i _=>zeL w base 190 4 (fun k=>zQ zfR.ro k) rfl i,fun i _=>zeL w base 138 2 (fun k=>zW zfR.se k) rfl i,zeM n,zeM n,zeM n⟩
theorem zcD {N:Nat}{S:Nat->Sail}{B:Nat}(a:N<=B)(c:ShortAll N S B):Off.Short (zef N S) B :=
 ⟨⟨a,c⟩,⟨a,fun _ _=>⟨Nat.zero_le _,Nat.zero_le _,Nat.zero_le _⟩⟩,⟨Nat.zero_le _,fun _ b=>absurd b (Nat.not_lt_zero _)⟩⟩
theorem zfS {w:World}{g t:Nat}{u0 u1 u2:Value}(h:w.heap[g]?=some (.cells #[u0,u1,u2] t (0,0)))(c d e:Value) :
  (((w.setCell ⟨g,0,none⟩ c).setCell ⟨g,1,none⟩ d).setCell ⟨g,2,none⟩ e).heap[g]?=some (.cells #[c,d,e] t (0,0)):=by
 have a:(w.setCell ⟨g,0,none⟩ c).heap[g]?=some (.cells #[c,u1,u2] t (0,0)):=by simpa using zy h 0 c
 have b:((w.setCell ⟨g,0,none⟩ c).setCell ⟨g,1,none⟩ d).heap[g]?=some (.cells #[c,d,u2] t (0,0)):=by simpa using zy a 1 d
 simpa using zy b 2 e
def NewO (N:Nat)(S:Nat->Sail)(base:Nat)(e:Ending)(w:World):Prop :=
 ∃ a1 c1 a2 c2 a3 c3 M L C A B D E t,M<=N/\e=.returned (.tuple #[.agg #[.slice a1 M c1,.slice a2 M c2,.slice a3 0 c3],.bool t])/\zV w base (.slice a1 M c1) (.slice a2 M c2) (.slice a3 0 c3) M M 0 (zef M S) L C A B D E
theorem zfT (r:Option Addr)(N c:Nat)(S:Nat->Sail)(w:World)(T:N<=1048576)(W:ShortAll N S 1048576)(Y:SailsAt w r N S) :
  Calls Tryz.prog 78 #[.slice r N c] w fun e w'=>NewO N S w.heap.size e w'/\Below w.heap.size w w':=by
 obtain⟨i0,hi,H,I,J⟩:=info_parts Tryz.infoLoadO;have Q:=hI W;have R:=hI Y;clear W Y;have i:Below w.heap.size w (w.alloc (.cells #[.slice none 0 0,.slice none 0 0,.slice none 0 0] 66)):=zr bZ _;have y:=heap_alloc_new w (.cells #[.slice none 0 0,.slice none 0 0,.slice none 0 0] 66);go_enter Tryz.func78,Tryz.ntmps78;go_wp2_with fail;generalize w.alloc (.cells #[.slice none 0 0,.slice none 0 0,.slice none 0 0] 66)=V at i y ⊢;refine(zdf r N c S _ T Q.out (R.out.below i)).mono ?_;rintro e X ⟨⟨t,rfl,ht⟩,m⟩;have g:=zc y m;have k:=zj i m;clear ht y i m
 cases t with
 | false =>
  obtain⟨r0,r1,r2⟩:=ce3 g;obtain⟨f0,f1,f2⟩:=fe3 g;go_wp2;have K:=zfS g (.slice none 0 0) (.slice none 0 0) (.slice none 0 0);obtain⟨M,O,P⟩:=ce3 K;exact bodyPost_ret (v:=.tuple #[.agg #[.slice none 0 0,.slice none 0 0,.slice none 0 0],.bool false]) (by simp[results,Tryz.results78,go_sem,M,O,P]) rfl ⟨⟨none,0,none,0,none,0,0,zeg,zeg,zeg,zeg,zeg,zeg,false,Nat.zero_le _,rfl,OwnSails.nil _ _ _ _ _,Zb.nil _ _ _ _ _ _,Zj.nil _ _ _ _⟩,((k.setCell (Nat.le_refl _) _).setCell (Nat.le_refl _) _).setCell (Nat.le_refl _) _⟩
 | true =>
 go_wp2_with (first|(at_make;refine wpList_make_full _ rfl _ _ 63 rfl 0 136 i0 _ 3 Tryz.underlying63 hi H I .i64 .i64 _ _ N rfl rfl rfl rfl (by rw[J];omega) (by unfold maxLen;omega) (Nat.zero_le _) ?_;intro Z d f))
 rw[made_ld] at d;have j:=(Below.refl X.heap.size X).grown f (Nat.le_refl _) (by simp)
 refine(zaj r _ none N N 0 c N 0 (zef N S) _ rfl rfl rfl (zcD T Q.out) (R.out.below (zj k j)) (Zb.at (lds_made d)) (Zj.at (Zj.nil _ 0 _ zeg))).mono ?_;rintro e w2 ⟨⟨n,s,o,u,q,x,L,C,A,B,D,E,rfl,U⟩,l⟩;have h:=zc (zc g j) l;have F:=zj (zj k j) l;have a0:w.heap.size<Z.heap.size:=zZ (zc g j);have HO:=hI U;clear U l d f;obtain⟨r0,r1,r2⟩:=ce3 h;obtain⟨f0,f1,f2⟩:=fe3 h;go_wp2;have K:=zfS h (.slice n N s) (.slice o N u) (.slice q 0 x);obtain⟨M,O,P⟩:=ce3 K;have G:=((((zA.refl _ (fun b=>b=w.heap.size)).set (a:=⟨w.heap.size,0,none⟩) rfl (.slice n N s)).set (a:=⟨w.heap.size,1,none⟩) rfl (.slice o N u)).set (a:=⟨w.heap.size,2,none⟩) rfl (.slice q 0 x):zA w2 _ _)
 have z:=(HO.out.box G h (by decide)).lower (by omega:w.heap.size<=Z.heap.size)
 exact bodyPost_ret (v:=.tuple #[.agg #[.slice n N s,.slice o N u,.slice q 0 x],.bool true]) (by simp[results,Tryz.results78,go_sem,M,O,P]) rfl ⟨⟨n,s,o,u,q,x,N,L,C,A,B,D,E,true,Nat.le_refl _,rfl,z⟩,((F.setCell (p:=⟨w.heap.size,0,none⟩) (Nat.le_refl _) _).setCell (p:=⟨w.heap.size,1,none⟩) (Nat.le_refl _) _).setCell (p:=⟨w.heap.size,2,none⟩) (Nat.le_refl _) _⟩
theorem ZP (m:Option Addr)(N c:Nat)(S:Nat->Sail)(x:Int)(w:World)(hN:N<=1048576)(z:SailsAt w m N S) :
  Calls Tryz.prog 110 #[.slice m N c,int i64 x] w fun e w'=>((qo S x N<N/\e=.returned (int i64 (qo S x N)))∨(qo S x N=N/\e=.returned (int i64 (-1))))/\Below w.heap.size w w':=by
 go_enter Tryz.func110,Tryz.ntmps110;go_wp2;go_loopw [5,6,9] (fun _ _ i wr=>∃ k:Nat,k<=N/\i=int i64 k/\(∀ j,j<k->(S j).id≠x)/\Below w.heap.size w wr) (fun _ _ i _=>N - (intOf i).toNat)
 case atStart=>exact⟨0,Nat.zero_le _,rfl,fun j y=>by omega,bZ⟩
 case round =>
  obtain⟨k,hk,rfl,d,a⟩:=hrel;have h:=hI d;clear d
  by_cases hlt:k<N
  ·obtain⟨b,off,la,lc,ca,cc,rfl,n,l,o,q,r,s,t,h7,_,_,_,_⟩:=z k hlt
   have f:=World.block_lt_of_cell? w _ l;have c0:=(a.cell (p:=⟨b,off+k*8,none⟩) f).trans n;have c1:=(a.cell (p:=⟨b,off+k*8+1,none⟩) f).trans l;have c2:=(a.cell (p:=⟨b,off+k*8+2,none⟩) f).trans o;have c3:=(a.cell (p:=⟨b,off+k*8+3,none⟩) f).trans q;have c4:=(a.cell (p:=⟨b,off+k*8+4,none⟩) f).trans r;have c5:=(a.cell (p:=⟨b,off+k*8+5,none⟩) f).trans s;have c6:=(a.cell (p:=⟨b,off+k*8+6,none⟩) f).trans t;have c7:=(a.cell (p:=⟨b,off+k*8+7,none⟩) f).trans h7;clear n l o q r s t h7
   by_cases he:(S k).id=x
   ·have v:((S k).id == x)=true:=by simpa using he
    have g:=hI (findIx_is hlt he h.out);clear he;go_wp2;go_ret;exact⟨.inl ⟨by rw[g.out];exact hlt,by rw[g.out];rfl⟩,zr a _⟩
   ·have v:((S k).id == x)=false:=by simpa using he
    have u:=hI he;clear he;go_wp2;go_roundw
    case rel=>exact⟨k+1,by omega,by go_num,fun j y=>by
     by_cases e:j=k
     ·subst e;exact u.out
     ·exact h.out j (by omega),zr a _⟩
    case measure=>simp[intOf];omega
  ·obtain rfl:k=N:=by omega
   have g:=hI (zgJ h.out);go_wp2;go_ret;exact⟨.inr ⟨g.out,rfl⟩,a⟩
theorem zdh (F P:Option Addr)(N n c c':Nat)(S:Nat->Sail)(G:Nat->Int)(w:World)(hN:N<=1048576)(hn:n<=1048576)(H:SailsAt w F N S)(hy:IntsAt w P n G) :
  Calls Tryz.prog 99 #[.slice F N c,.slice P n c'] w fun e w'=>SaysIf (zba N S n G) e/\Below w.heap.size w w':=by
 by_cases o:In (n:Int) 1 3
 case neg =>
  have d3:decide (In (n:Int) 1 3)=false:=decide_eq_false o;have HN:Hid (¬ zba N S n G):=fun h=>o ⟨by have:=h.1;omega,by have:=h.2.1;omega⟩
  clear o;go_enter Tryz.func99,Tryz.ntmps99;go_wp2_with (first|(go_at_call 19;refine sC (zx _ _ _ _) ?_))
  go_ret;exact⟨zC HN.out,bZ⟩
 have d3:decide (In (n:Int) 1 3)=true:=decide_eq_true o;have J:Hid (1<=n/\n<=3):=⟨by have:=o.1;omega,by have:=o.2;omega⟩
 have a5:n<=3:=J.out.2;clear o;go_enter Tryz.func99,Tryz.ntmps99;go_wp2_with (first|(go_at_call 19;refine sC (zx _ _ _ _) ?_))
 go_loopw [5,6,7,8,15] (fun _ _ _ _ i wr=>∃ k:Nat,k<=n/\i=int i64 k/\(∀ j,j<k->LegOk N S G j)/\Below w.heap.size w wr) (fun _ _ _ _ i _=>n - (intOf i).toNat)
 case atStart=>exact⟨0,Nat.zero_le _,rfl,fun j hj=>by omega,bZ⟩
 case round =>
  obtain⟨k,hk,rfl,r,f⟩:=hrel;have K:=hI r;clear r d3
  by_cases hlt:k<n
  ·have V:Hid (0<k->∀ b off,P=some ⟨b,off,none⟩->w.cell? ⟨b,off+(k - 1),none⟩=some (int i64 (G (k - 1)))):=by
    intro h b off e;obtain⟨b',E,A,g⟩:=hy (k - 1) (by omega)
    rw[e] at A;simp only[Option.some.injEq,Addr.mk.injEq,and_true] at A;obtain⟨rfl,rfl⟩:=A;exact g
   obtain⟨I,l,rfl,T⟩:=hy k hlt;have L:Hid (0<k->w.cell? ⟨I,l+(k - 1),none⟩=some (int i64 (G (k - 1)))):=fun h=>V.out h I l rfl
   clear V;have D:=World.block_lt_of_cell? w _ T;have p0:=(f.cell (p:=⟨I,l+k,none⟩) D).trans T;clear T;go_wp2_with fail;refine(ZP F N c S (G k) _ hN (H.below f)).mono ?_;rintro e w2 ⟨U,B⟩;have d:=zj f B;clear B f p0
   rcases U with⟨t,rfl⟩|⟨t,rfl⟩
   ·obtain⟨x,v⟩:∃ x,x=qo S (G k) N:=⟨_,rfl⟩
    rw[← v] at t ⊢;have W:=hI v;clear v
    by_cases k0:k=0
    ·subst k0
     have Q:decide ((x:Int)<0)=false:=by simp
     go_wp2;go_roundw
     case rel=>exact⟨1,by omega,by go_num,fun j hj=>by
      obtain rfl:j=0:=by omega
      exact⟨by rw[← W.out];exact t,fun h=>by omega⟩,d⟩
     case measure=>simp[intOf];omega
    ·have Q:decide ((x:Int)<0)=false:=by simp
     have d0:decide (0<k)=true:=by simp;omega
     have a0:((k:Int) - 1).toNat=k - 1:=by omega
     have a1:(k:Int) - 1<(n:Int):=by omega
     have a2:(0:Int)<=(k:Int) - 1:=by omega
     have a3:IntKind.i64.wrap ((k:Int) - 1)=(k:Int) - 1:=by rw[IntKind.wrap_i64];omega
     have y0:=(d.cell (p:=⟨I,l+(k - 1),none⟩) D).trans (L.out (by omega))
     go_wp2_with fail;refine(ZP F N c S (G (k - 1)) _ hN (H.below d)).mono ?_;rintro e w3 ⟨U,C⟩;have a:=zj d C;have HP:Hid (qo S (G (k - 1)) N<N):=(K.out (k - 1) (by omega)).1
     clear C d y0 Q d0
     rcases U with⟨u,rfl⟩|⟨u,rfl⟩
     ·obtain⟨y,z⟩:∃ y,y=qo S (G (k - 1)) N:=⟨_,rfl⟩
      rw[← z] at u ⊢;have HY:=hI z;clear z;have x1:(x:Int)<(N:Int):=by omega
      have x0:(0:Int)<=(x:Int):=by omega
      have y1:(y:Int)<(N:Int):=by omega
      have y0:(0:Int)<=(y:Int):=by omega
      have M:=H x t;obtain⟨b,off,la,lc,ca,cc,rfl,Y,R,Z,h3,h4,h5,h6,h7,_,_,_,_⟩:=H y u;obtain⟨b',E,_,_,_,_,A,g0,X,g2,o,_⟩:=M;simp only[Option.some.injEq,Addr.mk.injEq,and_true] at A;obtain⟨rfl,rfl⟩:=A;have q:=World.block_lt_of_cell? w _ R;have c0:=(a.cell (p:=⟨b,off+y*8,none⟩) q).trans Y;have c1:=(a.cell (p:=⟨b,off+y*8+1,none⟩) q).trans R;have c2:=(a.cell (p:=⟨b,off+y*8+2,none⟩) q).trans Z;have c3:=(a.cell (p:=⟨b,off+y*8+3,none⟩) q).trans h3;have c4:=(a.cell (p:=⟨b,off+y*8+4,none⟩) q).trans h4;have c5:=(a.cell (p:=⟨b,off+y*8+5,none⟩) q).trans h5;have c6:=(a.cell (p:=⟨b,off+y*8+6,none⟩) q).trans h6;have c7:=(a.cell (p:=⟨b,off+y*8+7,none⟩) q).trans h7;have m:=zr a (.cells #[int i64 (S y).id,.string (S y).fr,.string (S y).dst,int i64 (S y).dep,int i64 (S y).arr,.slice la (S y).la.n lc,.slice ca (S y).ca.n cc,int i64 (S y).most] 37);have q1:=(m.cell (p:=⟨b,off+x*8+1,none⟩) q).trans X;have q3:=(m.cell (p:=⟨b,off+x*8+3,none⟩) q).trans o;clear Y R Z h3 h4 h5 h6 h7 g0 X g2 o;have s:Hid (((S y).dst=(S x).fr/\(S y).arr<=(S x).dep)↔LegOk N S G k):=by
       unfold LegOk;rw[← W.out,← HY.out];exact⟨fun h=>⟨t,fun _=>h⟩,fun h=>h.2 (by omega)⟩
      by_cases m1:(S y).dst=(S x).fr
      ·have e1:((S y).dst.toList == (S x).fr.toList)=true:=Q4.2 m1
       have O:=hI m1;clear m1
       by_cases m2:(S y).arr<=(S x).dep
       ·have e2:decide ((S x).dep<(S y).arr)=false:=by simpa using m2
        go_wp2;go_quiet (fail);go_wp2;go_roundw
        case rel=>exact⟨k+1,by omega,by go_num,fun j hj=>by
         by_cases e:j=k
         ·subst e;exact s.out.1 ⟨O.out,m2⟩
         ·exact K.out j (by omega),dN m _⟩
        case measure=>simp[intOf];omega
       ·have e2:decide ((S x).dep<(S y).arr)=true:=by simpa using m2
        go_wp2;go_quiet (fail);go_wp2;go_ret;exact⟨zC (fun h=>by have:=(s.out.2 (h.2.2 k hlt)).2;omega),dN m _⟩
      ·have e1:((S y).dst.toList == (S x).fr.toList)=false:=zaz.2 m1
       have O:=hI m1;clear m1;go_wp2;go_quiet (fail);go_wp2;go_ret;exact⟨zC (fun h=>O.out (s.out.2 (h.2.2 k hlt)).1),dN m _⟩
     ·exfalso
      have:=HP.out
      omega
   ·have Q:decide ((-1:Int)<0)=true:=rfl
    have HF:=hI t;clear t;go_wp2;go_ret;exact⟨zC (fun h=>by have:=(h.2.2 k hlt).1;have:=HF.out;omega),d⟩
  ·obtain rfl:k=n:=by omega
   go_wp2;go_ret;exact⟨says_yes ⟨J.out.1,J.out.2,K.out⟩,f⟩
section
open Go.RowKit
section
variable {P : Program} {ops : Array Oper} {Q : Exit -> Act -> World -> Prop} {md : Region.Mode} {S : World -> Prop} {z : Nat}
def ZJ (P:Program)(c:Region.Mode)(b:Array Oper)(Q:Exit->Act->World->Prop)(S:World->Prop)(z:Nat):Nat->Array Bool->Act->World->Prop
 | 0,listed,a,w=>Region.ready c b listed=[]/\Q .normal a w
 | fuel+1,listed,a,w =>
  (Region.ready c b listed=[]->Q .normal a w) /\
  ∀ i ∈ Region.ready c b listed,wpOp P b Q i (fun d w'=>(i≠z->S w')/\ZJ P c b Q S z fuel (listed.setIfInBounds i true) d w') a w
theorem zeh:∀ (fuel:Nat)(b:Array Bool)(a:Act)(w:World),ZJ P md ops Q S z fuel b a w->wpAny P md ops Q fuel b a w
 | 0,_,_,_,h=>h
 | fuel+1,_,_,_,h=>⟨h.1,fun i e=>wpOp_mono (fun c w' d=>zeh fuel _ c w' d.2) (h.2 i e)⟩
def zei (b:Region.Mode)(a:Array Oper)(z:Nat):Bool :=
 (List.range a.size).all fun j=>j == z || (List.range a.size).any fun s=>decide (j<s) && ((a[s]?).map fun o=>o.after.any fun e=>Region.binds b e && e.on == j).getD false
def shutB (c:Region.Mode)(b:Array Oper)(a:Array Bool):Bool :=
 (List.range b.size).all fun s=>!a.getD s false || ((b[s]?).map fun o=>o.after.all fun e=>!Region.binds c e || a.getD e.on false).getD true
def ShutL (c:Region.Mode)(b:Array Oper)(a:Array Bool):Prop :=
 ∀ s o,b[s]?=some o->a.getD s false=true->∀ e ∈ o.after,Region.binds c e=true->a.getD e.on false=true
theorem shut_of {a:Array Bool}(h:shutB md ops a=true):ShutL md ops a:=fun s o f hl e i g=>by
 unfold shutB at h;rw[List.all_eq_true] at h;have c:s<ops.size:=(Array.getElem?_eq_some_iff.1 f).1;have b:=h s (List.mem_range.2 c);rw[hl,f] at b;simp only[Bool.not_true,Bool.false_or,Option.map_some,Option.getD_some,Array.all_eq_true_iff_forall_mem] at b;have d:=b e i;rw[g] at d
 simpa using d
theorem shut_set {a:Array Bool}{i:Nat}(h:ShutL md ops a)(k:i ∈ Region.ready md ops a):ShutL md ops (a.setIfInBounds i true):=fun s o j hl e g f=>by
 by_cases c:i=s
 ·subst c
  obtain⟨_,o',d,b⟩:=mem_ready.1 k;rw[j] at d
  cases d
  exact getD_set_true (b e g f)
 ·rw[getD_set_ne false c] at hl
  exact getD_set_true (h s o j hl e g f)
theorem zhX {a:Array Bool}(k:zei md ops z=true)(hz:z+1=ops.size)(u:ShutL md ops a)(t:z ∈ Region.ready md ops a):∀ m j,j+m=z->j≠z->a.getD j false=true:=by
 intro m
 induction m using Nat.strongRecOn with
 | ind m ih =>
  intro j q p;unfold zei at k;rw[List.all_eq_true] at k;have d:=k j (List.mem_range.2 (by omega))
  rw[Bool.or_eq_true] at d
  rcases d with d|d
  ·exact absurd (by simpa using d) p
  ·rw[List.any_eq_true] at d
   obtain⟨s,i,f⟩:=d;rw[Bool.and_eq_true] at f;have r:j<s:=by simpa using f.1
   have v:s<ops.size:=List.mem_range.1 i
   cases ho:ops[s]? with
   | none=>rw[ho] at f;simp at f
   | some o =>
    rw[ho] at f;simp only[Option.map_some,Option.getD_some,Array.any_eq_true',Bool.and_eq_true] at f;obtain⟨_,e,n,l,b⟩:=f;have b:e.on=j:=by simpa using b
    by_cases c:s=z
    ·subst c
     obtain⟨_,o',h,g⟩:=mem_ready.1 t;rw[ho] at h
     cases h
     rw[← b];exact g e n l
    ·have:=ih (z - s) (by omega) s (by omega) c
     rw[← b];exact u s o ho this e n l
theorem zfU {i:Nat}{s:Oper}{v:Value}(F:ops[i]?=some s)(J:i≠z)(X:zei md ops z=true)(Y:z+1=ops.size)(p:∀ (j:Nat)(o:Oper) cs b,ops[j]?=some o->o.op≠.select cs b)
  (R:∀ c a w,Q (.panic c) (a.put s.dst v) w->Q (.panic c) a w) :
  ∀ (fuel:Nat) (d:Array Bool) (a:Act) (w:World),ShutL md ops d ->
   (∀ j t,ops[j]?=some t->j≠i->d.getD j true=false->(∀ e ∈ t.after,Region.binds md e=true->e.on≠i)->s.apart ops t=true) ->
   i ∈ Region.ready md ops d->YieldsIf P ops S s v a->S w ->
   ZJ P md ops Q S z fuel (d.setIfInBounds i true) (a.put s.dst v) w->ZJ P md ops Q S z (fuel+1) d a w:=by
 intro fuel
 induction fuel with
 | zero =>
  intro d a w _ _ n G y H;refine⟨fun h=>(by rw[h] at n;cases n),fun j u=>?_⟩
  by_cases hji:j=i
  ·subst hji;exact G.wpOp F y ⟨fun _=>y,H⟩
  ·have:=ready_mono u hji
   rw[H.1] at this
   cases this
 | succ fuel ih =>
  intro d a w C g n G y H;refine⟨fun h=>(by rw[h] at n;cases n),fun j u=>?_⟩
  by_cases hji:j=i
  ·subst hji;exact G.wpOp F y ⟨fun _=>y,H⟩
  ·have K:j≠z:=fun e=>by
    subst e;have W:i<ops.size:=(Array.getElem?_eq_some_iff.1 F).1;have f:=zhX X Y C u (j - i) i (by omega) J
    have x:=(mem_ready.1 n).1
    rcases Nat.lt_or_ge i d.size with q|q
    ·simp[q] at x f;rw[x] at f;cases f
    ·simp[Array.getElem?_eq_none q] at f
   have f:=H.2 j (ready_mono u hji);obtain⟨m,t,r,A⟩:=mem_ready.1 u;have B:∀ e ∈ t.after,Region.binds md e=true->e.on≠i:=fun e U T I=>by
    have f:=A e U T;have x:=(mem_ready.1 n).1;rw[I] at f
    rcases Nat.lt_or_ge i d.size with q|q
    ·simp[q] at x f;rw[x] at f;cases f
    ·simp[Array.getElem?_eq_none q] at f
   have O:=wpOp_putIf r (g j t r hji m B) (fun cs b=>p i s cs b F) (fun cs b=>p j t cs b r) R G f
   have l:∀ k ok,ops[k]?=some ok->k≠i->(d.setIfInBounds j true).getD k true=false ->
     (∀ e ∈ ok.after,Region.binds md e=true->e.on≠i)->s.apart ops ok=true:=fun k ok V L D M=>by
    refine g k ok V L ?_ M
    by_cases hjk:j=k
    ·subst hjk;exact m
    ·rw[getD_set_ne true hjk] at D;exact D
   refine wpOp_mono (fun N w' E=>⟨E.2.1,ih (d.setIfInBounds j true) N w' (shut_set C u) l (ready_mono n (Ne.symm hji)) E.1 (E.2.1 K) ?_⟩) O
   rw[Array.setIfInBounds_comm _ _ hji];exact E.2.2
theorem zgT {i:Nat}{e:Oper}{v:Value}{fuel:Nat}{b:Array Bool}{a:Act}{w:World}(f:ops[i]?=some e)
  (m:Region.noSelect ops=true) (k:Region.free md ops b i=true) (l:(Region.ready md ops b).contains i=true) (d:(!(i == z) && zei md ops z && shutB md ops b && (z+1 == ops.size))=true)
  (g:∀ c a w,Q (.panic c) (a.put e.dst v) w->Q (.panic c) a w) (n:YieldsIf P ops S e v a) (j:S w)
  (h:ZJ P md ops Q S z fuel (b.setIfInBounds i true) (a.put e.dst v) w):ZJ P md ops Q S z (fuel+1) b a w:=by
 simp only[Bool.and_eq_true,Bool.not_eq_true',beq_eq_false_iff_ne,ne_eq,beq_iff_eq] at d;exact zfU f d.1.1.1 d.1.1.2 d.2 (Region.noSelect_spec m) g fuel b a w (shut_of d.1.2) (Region.free_spec f k) (by simpa using l) n j h
def zd (P:Program)(e:Region.Mode)(c:Array Oper)(Q:Exit->Act->World->Prop)(S:World->Prop)(z fuel:Nat)(b:Array Bool)(a:Act)(w:World)(rs:List Nat):Prop :=
 ∀ i ∈ rs,wpOp P c Q i (fun d w'=>(i≠z->S w')/\ZJ P e c Q S z fuel (b.setIfInBounds i true) d w') a w
theorem zd.nil {fuel:Nat}{b:Array Bool}{a:Act}{w:World}:zd P md ops Q S z fuel b a w []:=fun _ h=>by cases h
theorem zd.cons {fuel:Nat}{b:Array Bool}{a:Act}{w:World}{i:Nat}{o:Oper}{rs:List Nat}(k:ops[i]?=some o)
  (h:∀ c:Act->World->Prop,Shut (∀ a w,S w->(S w->ZJ P md ops Q S z fuel (b.setIfInBounds i true) a w)->c a w)->if Region.wanted o (yielded ops a.tmps)=true then Oper.wp P o a w c Q else c (a.put o.dst undef) w)
  (l:zd P md ops Q S z fuel b a w rs):zd P md ops Q S z fuel b a w (i :: rs):=fun j d=>by
 rcases List.mem_cons.1 d with rfl|d
 ·exact wpOp_step k (fun c f=>h c (fun a w e g=>f a w ⟨fun _=>e,g e⟩))
 ·exact l j d
theorem zd.last {fuel:Nat}{b:Array Bool}{a:Act}{w:World}{o:Oper}(i:ops[z]?=some o)
  (h:∀ c:Act->World->Prop,Shut (∀ a w,ZJ P md ops Q S z fuel (b.setIfInBounds z true) a w->c a w)->if Region.wanted o (yielded ops a.tmps)=true then Oper.wp P o a w c Q else c (a.put o.dst undef) w):zd P md ops Q S z fuel b a w [z]:=fun j d=>by
 rcases List.mem_cons.1 d with rfl|d
 ·exact wpOp_step i (fun c f=>h c (fun a w g=>f a w ⟨fun e=>absurd rfl e,g⟩))
 ·cases d
theorem zh {rs:List Nat}{fuel:Nat}{b:Array Bool}{a:Act}{w:World}(d:Region.ready md ops b=rs)(c:rs≠[])
  (h:zd P md ops Q S z fuel b a w rs):ZJ P md ops Q S z (fuel+1) b a w :=
 ⟨fun e=>absurd (d ▸ e) c,d ▸ h⟩
theorem zH {b:Array Bool}{a:Act}{w:World}(d:Region.ready md ops b=[])(h:Q .normal a w):∀ fuel,ZJ P md ops Q S z fuel b a w
 | 0=>⟨d,h⟩
 | _+1=>⟨fun _=>h,fun i c=>by rw[d] at c;cases c⟩
theorem qy {id:Nat}{a:Act}{w:World}(z n:Nat)(S:World->Prop)(hn:ops.size=n)(c:P.follows .mixedOrders=true)(b:S w.drew)
  (h:S w.drew->ZJ P .any ops Q S z n (List.replicate n false).toArray a w.drew):(Code.region id ops true).wp P Q a w:=by
 subst hn;exact wp_region_any c (zeh _ _ _ _ (by simpa using h b))
end
section
variable {P : Program} {l : List Oper} {Q : Exit -> Act -> World -> Prop} {md : Region.Mode} {S : World -> Prop} {z : Nat}
theorem zf {i:Nat}{e:Oper}{v:Value}{fuel:Nat}{b:List Bool}{a:Act}{w:World}(j:l[i]?=some e)
  (d:(Region.noSelect l.toArray && Region.free md l.toArray b.toArray i && (Region.ready md l.toArray b.toArray).contains i && (!(i == z) && zei md l.toArray z && shutB md l.toArray b.toArray && (z+1 == l.toArray.size)))=true)
  (f:∀ c a w,Q (.panic c) (a.put e.dst v) w->Q (.panic c) a w) (k:YieldsIf P l.toArray S e v a) (g:S w)
  (h:ZJ P md l.toArray Q S z fuel (b.set i true).toArray (a.put e.dst v) w):ZJ P md l.toArray Q S z (fuel+1) b.toArray a w:=by
 rw[Bool.and_eq_true,Bool.and_eq_true,Bool.and_eq_true] at d;exact zgT (i:=i) (by simpa using j) d.1.1.1 d.1.1.2 d.1.2 d.2 f k g (by simpa using h)
theorem zd.consL {fuel:Nat}{b:List Bool}{a:Act}{w:World}{i:Nat}{o:Oper}{rs:List Nat}(g:l[i]?=some o)
  (h:∀ c:Act->World->Prop,Shut (∀ a w,S w->(S w->ZJ P md l.toArray Q S z fuel (b.set i true).toArray a w)->c a w)->if Region.wanted o (yielded l.toArray a.tmps)=true then Oper.wp P o a w c Q else c (a.put o.dst undef) w)
  (j:zd P md l.toArray Q S z fuel b.toArray a w rs):zd P md l.toArray Q S z fuel b.toArray a w (i :: rs) :=
 zd.cons (by simpa using g) (fun c e=>h c (fun a w d f=>e a w d (fun d=>by simpa using f d))) j
theorem zd.lastL {fuel:Nat}{b:List Bool}{a:Act}{w:World}{o:Oper}(f:l[z]?=some o)
  (h:∀ c:Act->World->Prop,Shut (∀ a w,ZJ P md l.toArray Q S z fuel (b.set z true).toArray a w->c a w)->if Region.wanted o (yielded l.toArray a.tmps)=true then Oper.wp P o a w c Q else c (a.put o.dst undef) w):zd P md l.toArray Q S z fuel b.toArray a w [z] :=
 zd.last (by simpa using f) (fun c d=>h c (fun a w e=>d a w (by simpa using e)))
end
theorem tkL {P:Program}{l:List Oper}{Q:Exit->Act->World->Prop}{d:Region.Mode}{S:World->Prop}{z:Nat}(i:Nat){e:Oper}{v:Value}{fuel:Nat}{b:List Bool}{a:Act}{w:World}(j:l[i]?=some e)
  (k:(Region.noSelect l.toArray && Region.free d l.toArray b.toArray i && (Region.ready d l.toArray b.toArray).contains i && (!(i == z) && zei d l.toArray z && shutB d l.toArray b.toArray && (z+1 == l.toArray.size)))=true)
  (f:∀ c a w,Q (.panic c) (a.put e.dst v) w->Q (.panic c) a w) (m:Region.wanted e (yielded l.toArray a.tmps)=true) (g:S w) (n:∀ w,S w->(execOp a.eval e).run P w=.ok (.value v) w)
  (h:ZJ P d l.toArray Q S z fuel (b.set i true).toArray (a.put e.dst v) w):ZJ P d l.toArray Q S z (fuel+1) b.toArray a w:=zf j k f (Or.inl ⟨m,n⟩) g h
end
end Go.Proofs.YtfallpinmhbemaaGreatDoor

/-
  OWN TEXT: PerfA, SpecFsh, PlainOu, PlainNi, PerfI, Dop1, FaultI.
-/
import Derived.Deep.DeepCutAuto
import Derived.Test.YtmdnjgihooflfaaGreatDoorB30
namespace Go.Proofs.YtmdnjgihooflfaaGreatDoor
open Go.RowKit
open Go.Value (int)
open Go.IntKind (i64)
set_option maxHeartbeats 64000000
set_option maxRecDepth 100000
theorem zjj {y:OpD}(h:zac y):∃ k:Nat,y.kind=(k:Int)/\k<10/\1<=k:=⟨y.kind.toNat,by have:=h.1.1;omega,by have:=h.1.2;omega,by have:=h.1.1;omega⟩
theorem route_bad {x:Off}{y:OpD}{k:Nat}(f:Zk x)(h:zac y)(hk:y.kind=(k:Int)):Qk x.san x y↔(Z0 k≠0/\¬ (QJ x.san x.sa/\zad x.san x.sa y.lgn y.lg)):=by
 have e:=h.2.2.2.1;have hf:=zcm x.sa (y.lg 0) x.san;unfold Qk;unfold qi at e
 by_cases c:zJ y.kind
 ·have b:Z0 k≠0:=by unfold Z0;unfold zJ at c;rw[if_pos (by omega)];decide
  constructor
  ·rintro(⟨_,h2⟩|⟨h2,_⟩)
   ·exact⟨b,fun q=>h2 q.2⟩
   ·unfold zJ at c;omega
  ·rintro⟨_,h2⟩;exact .inl ⟨c,fun q=>h2 ⟨f.1,q⟩⟩
 ·rw[if_neg c] at e
  by_cases c9:y.kind=9
  ·rw[if_pos c9] at e
   have b:Z0 k≠0:=by unfold Z0;rw[if_neg (by omega),if_pos (by omega)];decide
   have a:zad x.san x.sa y.lgn y.lg↔zW x.sa (y.lg 0) x.san<x.san:=by
    unfold zad zkh;rw[e];exact⟨fun q=>(q.2.2 0 (by decide)).1,fun q=>⟨by decide,by decide,fun i hi=>by
     obtain rfl:i=0:=by omega
     exact⟨q,fun z=>absurd z (by decide)⟩⟩⟩
   constructor
   ·rintro(⟨q,_⟩|⟨_,q⟩)
    ·exact absurd q c
    ·exact⟨b,fun z=>by have:=a.1 z.2;omega⟩
   ·rintro⟨_,q⟩
    refine .inr ⟨c9,?_⟩
    by_cases d:zW x.sa (y.lg 0) x.san<x.san
    ·exact absurd ⟨f.1,a.2 d⟩ q
    ·omega
  ·have b:Z0 k=0:=by unfold Z0;unfold zJ at c;rw[if_neg (by omega),if_neg (by omega)]
   constructor
   ·rintro(⟨q,_⟩|⟨q,_⟩)
    ·exact absurd q c
    ·exact absurd q c9
   ·rintro⟨q,_⟩;exact absurd b q
theorem znY (b:ql)(y:OpD):zeo y.kind b y.now↔¬ zbG b y:=by
 unfold zbG zeo zez
 by_cases k4:y.kind=4
 ·rw[if_pos k4];omega
 ·rw[if_neg k4]
  by_cases k8:y.kind=8
  ·rw[if_pos k8];omega
  ·rw[if_neg k8];omega
theorem asked_any (x:Off)(y:OpD)(g a:Option Addr)(c1 b m:Nat)(pe:Nat->Addr)(w:World)(r:Zk x)(o:Off.Short x 1048576)(j:Zm w)(l:qY w pe)(d:OpD.Is w [int i64 y.kind,.string y.own,int i64 y.name,.slice a y.lgn b,int i64 y.pe,int i64 y.len,int i64 y.hei,int i64 y.cl,.bool y.all,int i64 y.be,int i64 y.unt,int i64 y.now] y)(ho:y.own.size<=1048576)(p:y.lgn<=1048576)(h:zT w a y.lgn y.lg)(i:qB w g x.san x.sa) :
  Calls Tryz.prog 106 #[.slice g x.san c1,.agg #[int i64 y.kind,.string y.own,int i64 y.name,.slice a y.lgn b,int i64 y.pe,int i64 y.len,int i64 y.hei,int i64 y.cl,.bool y.all,int i64 y.be,int i64 y.unt,int i64 y.now]] w fun e w'=>((e=.returned (.tuple #[])/\zac y/\¬ Qk x.san x y)∨(∃ c:Nat,1<=c/\c<=8/\e=zmK pe c/\ZT x.san x.bkn m x y (c:Int)))/\Below w.heap.size w w':=by
 by_cases hok:zac y
 ·obtain⟨k,n,f,_⟩:=zjj hok
  have hr:=route_bad r hok n
  by_cases h0:Z0 k=0
  ·exact(zfV y a b g x.san c1 k w d (by omega) j pe l hok n f h0).mono fun _ _ ⟨e,hb⟩=>⟨.inl ⟨e,hok,fun q=>(hr.1 q).1 h0⟩,hb⟩
  ·by_cases hfit:QJ x.san x.sa/\zad x.san x.sa y.lgn y.lg
   ·exact(zhj y a b g x.san c1 x.sa k w d (by omega) j pe l hok n f h0 o.1.1 p o.1.2 i h hfit).mono fun _ _ ⟨e,hb⟩=>⟨.inl ⟨e,hok,fun q=>(hr.1 q).2 hfit⟩,hb⟩
   ·exact(zfU y a b g x.san c1 x.sa k w d (by omega) j pe l hok n f h0 o.1.1 p o.1.2 i h hfit).mono fun _ _ ⟨e,hb⟩=>⟨.inr ⟨2,by decide,by decide,e,fun q=>absurd hok q,fun _ _=>rfl,fun _ q=>absurd (hr.2 ⟨h0,hfit⟩) q,fun _ q=>absurd (hr.2 ⟨h0,hfit⟩) q⟩,hb⟩
 ·exact(zhi y a b g x.san c1 w d (by omega) j pe l hok).mono fun _ _ ⟨e,hb⟩=>⟨.inr ⟨1,by decide,by decide,e,fun _=>rfl,fun q=>absurd q hok,fun q=>absurd q hok,fun q=>absurd q hok⟩,hb⟩
theorem named_any (x:Off)(y:OpD)(h b:Option Addr)(c3 d m:Nat)(pe:Nat->Addr)(w:World)(s:x.bkn<=30)(n:Zm w)(r:qY w pe)(a:zac y)(o:¬ Qk x.san x y)(u:zac y->In y.kind 4 8->y.name=(m:Int)+1)(j:qO w h x.bkn x.bk) :
  Calls Tryz.prog 107 #[.slice h x.bkn c3,.agg #[int i64 y.kind,.string y.own,int i64 y.name,.slice b y.lgn d,int i64 y.pe,int i64 y.len,int i64 y.hei,int i64 y.cl,.bool y.all,int i64 y.be,int i64 y.unt,int i64 y.now]] w fun e w'=>((e=.returned (.tuple #[])/\ZZ x y m)∨(∃ c:Nat,1<=c/\c<=8/\e=zmK pe c/\ZT x.san x.bkn m x y (c:Int)))/\Below w.heap.size w w':=by
 obtain⟨k,p,f,t⟩:=zjj a
 by_cases hn:In y.kind 4 8
 ·have i:zaS k=true:=by unfold zaS;unfold In at hn;exact decide_eq_true (by omega)
  have g:=u a hn
  by_cases hlt:m<x.bkn
  ·have l:=znY (x.bk m) y
   by_cases hb:zbG (x.bk m) y
   ·exact(zhF y b d h x.bkn c3 k w n p f i pe r x.bk j (by omega) m g hlt (fun q=>l.1 q hb)).mono fun _ _ ⟨e,hbl⟩=>⟨.inr ⟨4,by decide,by decide,e,fun q=>absurd a q,fun _ q=>absurd q o,fun _ _ _=>⟨fun q=>by omega,fun _ _=>rfl,fun _ q=>absurd hb q⟩,fun _ _ q=>absurd hn q⟩,hbl⟩
   ·exact(zja y b d h x.bkn c3 k w n p f i pe r x.bk j (by omega) m g hlt (l.2 hb)).mono fun _ _ ⟨e,hbl⟩=>⟨.inl ⟨e,a,o,fun _=>⟨g,hlt,hb⟩⟩,hbl⟩
  ·exact(zhE y b d h x.bkn c3 k w n p f i pe r (by omega)).mono fun _ _ ⟨e,hbl⟩=>⟨.inr ⟨3,by decide,by decide,e,fun q=>absurd a q,fun _ q=>absurd q o,fun _ _ _=>⟨fun _=>rfl,fun q=>absurd q hlt,fun q=>absurd q hlt⟩,fun _ _ q=>absurd hn q⟩,hbl⟩
 ·have i:zaS k=false:=by unfold zaS;unfold In at hn;exact decide_eq_false (by omega)
  exact(zhg y b d h x.bkn c3 k w n p f i).mono fun _ _ ⟨e,hbl⟩=>⟨.inl ⟨e,a,o,fun q=>absurd q hn⟩,hbl⟩
theorem ZZ.price {x:Off}{y:OpD}{m:Nat}(h:ZZ x y m)(a:zJ y.kind):QU ⟨y.pe,y.len,y.hei,y.cl,y.all,y.be⟩ y.lgn:=⟨h.party a,by have:=(h.legs a).1;have:=(h.legs a).2.1;unfold In;omega⟩
def SetAns (x:Off)(b c:Option Addr)(c1 c2:Nat)(L C A B D:Nat->Value)(a:Int)(y:OpD)(m base h:Nat)(e:Ending)(w':World):Prop :=
 ∃ (z:Off) (d:Option Addr) (f:Nat) (name price:Int) (g:Value) (E:Nat->Value),e=.returned (.tuple #[.agg #[.slice b x.san c1,.slice c x.ldn c2,.slice d z.bkn f],.agg #[int i64 0,int i64 name,int i64 price,g]]) /\
  zF w' base (.slice b x.san c1) (.slice c x.ldn c2) (.slice d z.bkn f) x.san x.ldn z.bkn z L C A B D E/\zfu x a y m z 0 name price/\zdA x y h w' g
theorem zif (x:Off)(I t s:Option Addr)(c1 c2 c3 base:Nat)(L C A B D E:Nat->Value)(f:Int)(y:OpD)(j:Option Addr)(n m:Nat)(w:World)(hT:QJ x.san x.sa)(M:x.bkn<=30)(W:x.ldn=x.san)(S:∀ i,i<x.bkn->zad x.san x.sa (x.bk i).lgn (x.bk i).lg)(d:ZZ x y m)(o:y.kind=2∨y.kind=3->x.bkn<30)
  (J:∀ V,Below base w V->Zq V/\Zu V) (G:zT w j y.lgn y.lg) (h9:y.kind=9->Off.Short x 1048576/\∀ k,k<x.san->qm (x.sa k) (x.ld k)) (K:base<=w.heap.size) (a:zF w base (.slice I x.san c1) (.slice t x.ldn c2) (.slice s x.bkn c3) x.san x.ldn x.bkn x L C A B D E) :
  Calls Tryz.prog 111 #[.agg #[.slice I x.san c1,.slice t x.ldn c2,.slice s x.bkn c3],int i64 f,.agg #[int i64 y.kind,.string y.own,int i64 y.name,.slice j y.lgn n,int i64 y.pe,int i64 y.len,int i64 y.hei,int i64 y.cl,.bool y.all,int i64 y.be,int i64 y.unt,int i64 y.now]] w fun e w'=>SetAns x I t c1 c2 L C A B D f y m base w.heap.size e w'/\zx w w' (fun b=>(Value.slice s x.bkn c3).ownBlock=some b):=by
 have N:=d.1.1;unfold In at N;have p:=J w bZ
 by_cases k1:y.kind=1
 ·refine(settle_1 x I t s c1 c2 c3 f y j n w k1 p.1 p.2 (d.price (.inl k1))).mono ?_
  rintro e w' ⟨rfl,r⟩;exact⟨⟨x,s,c3,_,_,_,E,rfl,a.below r,.inl ⟨k1,rfl,rfl,rfl,rfl⟩,fun q=>by omega,fun _=>rfl⟩,zx.of_below r⟩
 by_cases k9:y.kind=9
 ·obtain⟨hs,a0⟩:=h9 k9
  have a5:y.lgn=1:=by have:=d.1.2.2.2.1;unfold qi at this;rw[if_neg (by unfold zJ;omega),if_pos k9] at this;exact this
  obtain⟨k,U⟩:∃ k,zW x.sa (y.lg 0) x.san=k:=⟨_,rfl⟩;have l:k<x.san:=by
   have:=zcm x.sa (y.lg 0) x.san
   by_cases c:k<x.san
   ·exact c
   ·exact absurd (.inr ⟨k9,by omega⟩) d.2.1
  have T:(x.sa k).id=y.lg 0:=by rw[← U];exact zcn x.sa (y.lg 0) x.san (by omega)
  refine(settle_9 x I t s c1 c2 c3 k f y j n w k9 hs a.sa.at a.ld.at a.bk.at M W (by omega) G U l (a0 k l)).mono ?_
  rintro e w' ⟨⟨v,rfl,hr⟩,r⟩;rw[T] at hr;exact⟨⟨x,s,c3,_,_,v,E,rfl,a.below r,.inr (.inl ⟨k9,rfl,rfl,rfl,rfl⟩),fun _=>⟨k,U,l,hr⟩,fun q=>absurd k9 q⟩,zx.of_below r⟩
 by_cases k23:y.kind=2∨y.kind=3
 ·have hu:y.kind=3->y.unt=0:=fun h3=>by have:=d.1.2.2.2.2.2.1;unfold Qm at this;omega
  have F:zJ y.kind:=by unfold zJ;omega
  obtain⟨st,a4⟩:∃ st:Int,(y.kind=2/\st=1)∨(y.kind=3/\st=2):=by
   rcases k23 with h|h
   ·exact⟨1,.inl ⟨h,rfl⟩⟩
   ·exact⟨2,.inr ⟨h,rfl⟩⟩
  refine(znM x I t s c1 c2 c3 base L C A B D E f st y j n w a4 p.1 p.2 (d.price F) G hu (o k23) K a).mono ?_;rintro e w' ⟨⟨g,R,Q,rfl,Z⟩,r⟩;exact⟨⟨{ x with bkn:=x.bkn+1,bk:=zah x.bk x.bkn (Qf x.bkn f y) },g,R,_,_,_,Q,rfl,Z,.inr (.inr (.inr (.inl ⟨k23,o k23,rfl,rfl,rfl,rfl⟩))),fun q=>by omega,fun _=>rfl⟩,r⟩
 ·have Y:In y.kind 4 8:=by unfold In;omega
  obtain⟨O,X,_⟩:=d.2.2 Y;have u:=S m X;obtain⟨k0,z⟩:∃ k,zW x.sa ((x.bk m).lg 0) x.san=k:=⟨_,rfl⟩;have l:k0<x.san:=by rw[← z];exact(u.2.2 0 u.1).1
  obtain⟨sb,e1,_,_⟩:=qh a.sa.row (by omega)
  obtain⟨gb,e3,_,_⟩:=qh a.bk.row (by omega)
  subst e1;subst e3;have H:=(hT.2 k0 l).1;have P:y.kind=6->In y.now 0 1000000:=fun _=>by have:=d.1.2.2.2.2.2.2;unfold zbW In at this;unfold In;omega
  refine(zkR x t sb gb c1 c2 c3 base m k0 L C A B D E f y j n w Y O X M (by have:=hT.1;omega) u.1 z l ⟨⟨H.2.2.2.2.1,by have:=H.2.2.2.2.2.1;have:=H.2.2.2.2.2.2.1;omega⟩,P⟩ J (fun h5=>⟨d.price (.inr (.inr (.inr h5))),G⟩) K a).mono ?_
  rintro e w' ⟨⟨Q,rfl,Z⟩,r⟩;refine⟨⟨{ x with bk:=zah x.bk m (qx (x.bk m) f y) },_,c3,_,_,_,Q,rfl,Z,.inr (.inr (.inr (.inr ⟨Y,X,rfl,rfl,O.symm,?_⟩))),fun q=>absurd q k9,fun _=>rfl⟩,r.mono (fun b e=>by rw[show b=gb from e];rfl)⟩
  unfold zne zbR;rw[z]
def zbn (n:Nat)(S:Nat->ql)(a:Int):Prop:=In a 1 9999/\∀ i,i<n->(S i).who≠a
theorem zmh (q o k:Option Addr)(N M R u s r:Nat)(x:Off)(f:Int)(w:World)(hR:R<=1048576)(v:qO w k R x.bk) :
  Calls Tryz.prog 43 #[.agg #[.slice q N u,.slice o M s,.slice k R r],int i64 f] w fun e w'=>qX (zbn R x.bk f) e/\Below w.heap.size w w':=by
 have A:=hI v;clear v;have D:Below w.heap.size w (w.alloc (.cells #[.slice q N u,.slice o M s,.slice k R r] 38)):=zk bZ _;go_enter Tryz.func43,Tryz.ntmps43;go_wp2;go_loopw [6,10] (fun _ i wr=>∃ t:Nat,t<=R/\i=int i64 t/\Hid (∀ j,j<t->(x.bk j).who≠f)/\Below w.heap.size w wr) (fun _ i _=>R - (intOf i).toNat)
 case atStart=>exact⟨0,Nat.zero_le _,rfl,(fun j O=>by omega),D⟩
 case round =>
  obtain⟨t,ht,rfl,E,a⟩:=hrel
  by_cases hlt:t<R
  ·obtain⟨Cc,z,y⟩:=A.out
   obtain⟨gb,off,rfl,g⟩:=z t hlt;obtain⟨C,B,l,L,P⟩:=y t hlt;obtain⟨b,m⟩:∃ b,b=x.bk t:=⟨_,rfl⟩;rw[← m] at l;have n:=hI m.symm;rw[l] at g;have d:=World.block_lt_of_cell? w _ (g 0 (by decide))
   have i0:(0:Int)<=(t:Int):=by omega
   have i1:(t:Int)<(R:Int):=by omega
   have c0:wr.cell? ⟨gb,off+t*13,none⟩=some (int i64 b.name):=(a.cell (p:=⟨gb,off+t*13,none⟩) d).trans (g 0 (by decide))
   have c1:wr.cell? ⟨gb,off+t*13+1,none⟩=some (int i64 b.who):=(a.cell (p:=⟨gb,off+t*13+1,none⟩) d).trans (g 1 (by decide))
   have c2:wr.cell? ⟨gb,off+t*13+2,none⟩=some (.string b.own):=(a.cell (p:=⟨gb,off+t*13+2,none⟩) d).trans (g 2 (by decide))
   have c3:wr.cell? ⟨gb,off+t*13+3,none⟩=some (.slice C b.lgn B):=(a.cell (p:=⟨gb,off+t*13+3,none⟩) d).trans (g 3 (by decide))
   have c4:wr.cell? ⟨gb,off+t*13+4,none⟩=some (int i64 b.pe):=(a.cell (p:=⟨gb,off+t*13+4,none⟩) d).trans (g 4 (by decide))
   have c5:wr.cell? ⟨gb,off+t*13+5,none⟩=some (int i64 b.len):=(a.cell (p:=⟨gb,off+t*13+5,none⟩) d).trans (g 5 (by decide))
   have c6:wr.cell? ⟨gb,off+t*13+6,none⟩=some (int i64 b.hei):=(a.cell (p:=⟨gb,off+t*13+6,none⟩) d).trans (g 6 (by decide))
   have c7:wr.cell? ⟨gb,off+t*13+7,none⟩=some (int i64 b.cl):=(a.cell (p:=⟨gb,off+t*13+7,none⟩) d).trans (g 7 (by decide))
   have c8:wr.cell? ⟨gb,off+t*13+8,none⟩=some (.bool b.all):=(a.cell (p:=⟨gb,off+t*13+8,none⟩) d).trans (g 8 (by decide))
   have c9:wr.cell? ⟨gb,off+t*13+9,none⟩=some (int i64 b.be):=(a.cell (p:=⟨gb,off+t*13+9,none⟩) d).trans (g 9 (by decide))
   have H:wr.cell? ⟨gb,off+t*13+10,none⟩=some (int i64 b.state):=(a.cell (p:=⟨gb,off+t*13+10,none⟩) d).trans (g 10 (by decide))
   have I:wr.cell? ⟨gb,off+t*13+11,none⟩=some (int i64 b.unt):=(a.cell (p:=⟨gb,off+t*13+11,none⟩) d).trans (g 11 (by decide))
   have J:wr.cell? ⟨gb,off+t*13+12,none⟩=some (int i64 b.price):=(a.cell (p:=⟨gb,off+t*13+12,none⟩) d).trans (g 12 (by decide))
   clear g l L P z y m
   by_cases he:b.who=f
   ·have K:(b.who == f)=true:=by simpa using he
    have G:Hid (¬ zbn R x.bk f):=fun h=>h.2 t hlt (by rw[n.out];exact he)
    clear he;go_wp2;go_ret;exact⟨zl G.out,zk a _⟩
   ·have K:(b.who == f)=false:=by simpa using he
    have F:Hid (∀ j,j<t+1->(x.bk j).who≠f):=fun j O=>by
     by_cases c:j=t
     ·rw[c,n.out];exact he
     ·exact E.out j (by omega)
    clear he;go_wp2;go_roundw
    case rel=>exact⟨t+1,by omega,by go_num,F.out,zk a _⟩
    case measure=>simp[intOf];omega
  ·obtain rfl:t=R:=by omega
   go_wp2_with (first|(go_at_call 89;refine sC (Qz _ _) ?_))
   go_ret;refine⟨⟨_,rfl,?_⟩,a⟩;rw[decide_eq_true_eq];exact⟨fun h=>⟨h,E.out⟩,fun h=>h.1⟩
theorem zhm {F:Nat->Int}{n:Nat}{x:Int}(h:∀ i,i<n->¬ Has F i (F i)){r a:Nat}(hr:r<n)(e:F r=x)(b:a<n)(d:F a=x):r=a:=by
 rcases Nat.lt_trichotomy r a with c|c|c
 ·exact absurd ⟨r,c,by rw[e,d]⟩ (h a b)
 ·exact c
 ·exact absurd ⟨a,c,by rw[e,d]⟩ (h r hr)
theorem qV.one {s:Zj}{w:Wk}{x y f:zY}{c c':Int}(h:qV s w x c y)(b:qV s w x c' f)(d:qm s x):c=c'/\y=f:=by
 cases h with
 | noStay r e g h q =>
  cases b with
  | noStay r' e' g' b q' =>
   obtain rfl:=zhm (F:=Qc x.st) d.stays_one h q b q';exact⟨rfl,rfl⟩
  | _=>first | (exfalso;omega) | (exfalso;simp_all)
 | noRoom r e g h q =>
  cases b with
  | noRoom r' e' g' b q' =>
   obtain rfl:=zhm (F:=ZV x.ro) d.rooms_one h q b q';exact⟨rfl,rfl⟩
  | _=>first | (exfalso;omega) | (exfalso;simp_all)
 | noSeat r e g h q =>
  cases b with
  | noSeat r' e' g' b q' =>
   obtain rfl:=zhm (F:=zag x.se) d.seats_one h q b q';exact⟨rfl,rfl⟩
  | _=>first | (exfalso;omega) | (exfalso;simp_all)
 | addStay k e g h =>
  cases b with
  | addStay k' e' g' b =>
   have q:=zcP h b;obtain rfl:k=k':=by omega
   exact⟨rfl,rfl⟩
  | deck e' g' b=>have q:=zcP h b;exfalso;omega
  | _=>first | (exfalso;omega) | (exfalso;simp_all)
 | deck e g h =>
  cases b with
  | addStay k' e' g' b=>have q:=zcP h b;exfalso;omega
  | deck=>exact⟨rfl,rfl⟩
  | _=>first | (exfalso;omega) | (exfalso;simp_all)
 | addWhole k e g a h =>
  cases b with
  | addWhole k' e' g' a' b =>
   have q:=zcO h b;obtain rfl:k=k':=by omega
   exact⟨rfl,rfl⟩
  | ZY e' g' a' b=>have q:=zcO h b;exfalso;omega
  | _=>first | (exfalso;omega) | (exfalso;simp_all)
 | ZY e g a h =>
  cases b with
  | addWhole k' e' g' a' b=>have q:=zcO h b;exfalso;omega
  | ZY=>exact⟨rfl,rfl⟩
  | _=>first | (exfalso;omega) | (exfalso;simp_all)
 | addBerth k e g a h =>
  cases b with
  | addBerth k' e' g' a' b =>
   have q:=zcO h b;obtain rfl:k=k':=by omega
   exact⟨rfl,rfl⟩
  | berth e' g' a' b=>have q:=zcO h b;exfalso;omega
  | _=>first | (exfalso;omega) | (exfalso;simp_all)
 | berth e g a h =>
  cases b with
  | addBerth k' e' g' a' b=>have q:=zcO h b;exfalso;omega
  | berth=>exact⟨rfl,rfl⟩
  | _=>first | (exfalso;omega) | (exfalso;simp_all)
 | addSeat e g hn hs =>
  cases b with
  | addSeat=>exact⟨rfl,rfl⟩
  | seats e' g' b=>exfalso;omega
  | _=>first | (exfalso;omega) | (exfalso;simp_all)
 | seats e g h =>
  cases b with
  | addSeat e' g' hn hs=>exfalso;omega
  | seats=>exact⟨rfl,rfl⟩
  | _=>first | (exfalso;omega) | (exfalso;simp_all)
theorem zjA.last {x:Off}{l:List Wk}{L M:Nat->zY}(h:zjA x l L M):∀ {a:List Wk}{v:Wk},l=a++[v]->∃ M1 k z,zjA x a L M1/\zW x.sa v.leg x.san=k/\k<x.san/\qV (x.sa k) v (M1 k) 0 z/\M=zht M1 k z:=by
 cases h with
 | nil=>intro a v e;simp at e
 | snoc l1 _ M1 v1 k z h hk hl hw =>
  intro a v e;obtain⟨b,c⟩:=List.append_inj' e rfl;have d:v1=v:=by simpa using c
  subst b d;exact⟨M1,k,z,h,hk,hl,hw,rfl⟩
theorem zjA.none {x:Off}{l:List Wk}{L M:Nat->zY}(h:zjA x l L M)(e:l=[]):M=L:=by
 cases h with
 | nil=>rfl
 | snoc=>simp at e
theorem zeR {l:List Wk}{j:Nat}{v:Wk}(h:l[j]?=some v):l.take (j+1)=l.take j++[v]:=by
 rw[List.take_add_one,h];rfl
theorem zeS {x:Off}{l:List Wk}(n:Zk x)(o:l.Pairwise zdu)(f:∀ v ∈ l,Apt x x.ld v/\WkOk x v):∀ j M M',j<=l.length->zjA x (l.take j) x.ld M->zjA x (l.take j) x.ld M'->M=M'/\zav x l j M
 | 0,M,M',_,h,h'=>by
  obtain rfl:=h.none (List.take_zero);obtain rfl:=h'.none (List.take_zero);exact⟨rfl,zav.start n (fun v a=>(f v a).1)⟩
 | j+1,M,M',hj,h,h'=>by
  obtain⟨v,a⟩:∃ v,l[j]?=some v:=⟨_,List.getElem?_eq_getElem (by omega)⟩
  obtain⟨q,k,z,r,g,i,m,rfl⟩:=h.last (zeR a);obtain⟨b,t,z',c,d,s,e,rfl⟩:=h'.last (zeR a);obtain⟨rfl,p⟩:=zeS n o f j q b (by omega) r c
  obtain rfl:k=t:=g.symm.trans d;obtain⟨_,rfl⟩:=m.one e (p.good k i);exact⟨rfl,p.next o a g i (f v (List.mem_of_getElem? a)).2 m⟩
theorem zjA.back {x:Off}{l:List Wk}{L:Nat->zY}(j:Nat):∀ d M,j+d<=l.length->zjA x (l.take (j+d)) L M->∃ a,zjA x (l.take j) L a
 | 0,M,_,h=>⟨M,h⟩
 | d+1,M,hj,h=>by
  obtain⟨v,c⟩:∃ v,l[j+d]?=some v:=⟨_,List.getElem?_eq_getElem (by omega)⟩
  obtain⟨a,k,z,b,_⟩:=zjA.last h (zeR c);exact zjA.back j d a (by omega) b
theorem work_done {x:Off}{l:List Wk}(n:Zk x)(p:l.Pairwise zdu)(o:∀ v ∈ l,Apt x x.ld v/\WkOk x v){j a k:Nat}{M d:Nat->zY}{v:Wk}{code:Int}(r:zav x l j M)(b:zav x l a d)(hj:j<a)(hl:a<=l.length)(s:l[j]?=some v)(q:zW x.sa v.leg x.san=k)(t:qV (x.sa k) v (M k) code (M k)):code=0:=by
 obtain⟨M1,g⟩:=zjA.back (l:=l) (j+1) (a - (j+1)) d (by omega) (by rw[show j+1+(a - (j+1))=a by omega];exact b.done)
 obtain⟨e,u,z,f,h,i,m,_⟩:=g.last (zeR s);obtain⟨rfl,c⟩:=zeS n p o j M e (by omega) r.done f
 obtain rfl:k=u:=q.symm.trans h;exact(t.one m (c.good k i)).1
theorem zcV.one {R m:Nat}{x:Off}{y:OpD}{c c':Int}(h:zcV R m x y c)(a:zcV R m x y c'):c=c':=by
 by_cases q:R<=m
 ·rw[h.1 q,a.1 q]
 ·by_cases p:zbG (x.bk m) y
  ·rw[h.2.1 (by omega) p,a.2.1 (by omega) p]
  ·rw[h.2.2 (by omega) p,a.2.2 (by omega) p]
theorem ZT.one {N R m:Nat}{x:Off}{y:OpD}{c c':Int}(h:ZT N R m x y c)(a:ZT N R m x y c'):c=c':=by
 by_cases q:zac y
 ·by_cases p:Qk N x y
  ·rw[h.2.1 q p,a.2.1 q p]
  ·by_cases r:In y.kind 4 8
   ·exact(h.2.2.1 q p r).one (a.2.2.1 q p r)
   ·rw[h.2.2.2 q p r,a.2.2.2 q p r]
 ·rw[h.1 q,a.1 q]
theorem ZZ.zero {m:Nat}{x:Off}{y:OpD}{c:Int}(h:ZZ x y m)(a:ZT x.san x.bkn m x y c):c=0:=by
 by_cases r:In y.kind 4 8
 ·obtain⟨_,b,d⟩:=h.2.2 r
  exact(a.2.2.1 h.1 h.2.1 r).2.2 b d
 ·exact a.2.2.2 h.1 h.2.1 r
theorem zfu.one {x:Off}{b:Int}{y:OpD}{m:Nat}{a e:Off}{c c' n f p p':Int}(h:zfu x b y m a c n p)(i:zfu x b y m e c' f p'):a=e/\c=c'/\n=f/\p=p':=by
 rcases h with⟨k,rfl,rfl,rfl,rfl⟩|⟨k,rfl,rfl,rfl,rfl⟩|⟨k,q,rfl,rfl,rfl,rfl⟩|⟨k,q,rfl,rfl,rfl,rfl⟩|⟨k,q,rfl,rfl,rfl,rfl⟩ <;>
  rcases i with⟨d,rfl,rfl,rfl,rfl⟩|⟨d,rfl,rfl,rfl,rfl⟩|⟨d,g,rfl,rfl,rfl,rfl⟩|⟨d,g,rfl,rfl,rfl,rfl⟩|⟨d,g,rfl,rfl,rfl,rfl⟩ <;>
  first|exact⟨rfl,rfl,rfl,rfl⟩|(exfalso;(try unfold In at k);(try unfold In at d);omega)
theorem zhG.one {x:Off}{e:Int}{y:OpD}{m:Nat}{a K:Off}{c c' n N p p':Int}(E:Zk x)(L:zbn x.bkn x.bk e)(h:zhG x e y m a c n p)(Q:zhG x e y m K c' N p'):a=K/\c=c'/\n=N/\p=p':=by
 have z:ZZ x y m->_:=fun d=>zeK E d L.1 L.2
 have l:∀ {c c':Int} {j w M A v k},ZZ x y m->c≠0->zav x (qk x e y m) j M->(qk x e y m)[j]?=some v->zW x.sa v.leg x.san=k->qV (x.sa k) v (M k) c (M k)->zav x (qk x e y m) w A->w<=(qk x e y m).length->¬ j<w:=fun d R i t C D b J T=>R (work_done E (z d).1 (z d).2 i b T J t C D)
 rcases h with⟨B,rfl,rfl,rfl,H⟩|⟨d,B,rfl,rfl,rfl,j,M,v,k,i,t,C,J,D⟩|⟨d,M,x3,i,S,O,P⟩ <;>
  rcases Q with⟨g,rfl,rfl,rfl,o⟩|⟨s,g,rfl,rfl,rfl,w,A,v',V,b,f,r,U,u⟩|⟨s,A,W,b,I,F,G⟩
 ·exact⟨rfl,H.one o,rfl,rfl⟩
 ·exact absurd (s.zero H) B
 ·exact absurd (s.zero H) B
 ·exact absurd (d.zero o) g
 ·have q:j<_:=(List.getElem?_eq_some_iff.1 t).1
  have q':w<_:=(List.getElem?_eq_some_iff.1 f).1;have n1:=l (c':=c) d B i t C D b (by omega)
  have n2:=l (c':=c) d g b f r u i (by omega)
  obtain rfl:j=w:=by omega
  obtain rfl:v=v':=by rw[t] at f;exact Option.some.inj f
  obtain rfl:k=V:=C.symm.trans r;obtain⟨rfl,_⟩:=zeS E (z d).1 (z d).2 j M A (by omega) i.done b.done
  exact⟨rfl,(D.one u (i.good k J)).1,rfl,rfl⟩
 ·exact absurd (List.getElem?_eq_some_iff.1 t).1 (l (c':=c) d B i t C D b (Nat.le_refl _))
 ·exact absurd (d.zero o) g
 ·exact absurd (List.getElem?_eq_some_iff.1 f).1 (l (c':=c) d g b f r u i (Nat.le_refl _))
 ·obtain⟨rfl,_⟩:=zeS E (z d).1 (z d).2 _ M A (Nat.le_refl _) i.done b.done
  obtain⟨rfl,rfl,rfl,rfl⟩:=S.one I;refine⟨?_,rfl,rfl,rfl⟩
  by_cases q:c≠0∨y.kind=1
  ·rw[O q,F q]
  ·rw[P q,G q]
theorem zig {x:Off}{y:OpD}{m:Nat}{a:Int}(h:y.kind=9):qk x a y m=[]:=by
 unfold qk;rw[if_neg (by unfold Qt;omega),if_neg (by unfold zJ;omega)]
 rfl
theorem zav.nine {x:Off}{y:OpD}{m:Nat}{a:Int}{M:Nat->zY}(h:zav x (qk x a y m) (qk x a y m).length M)(h9:y.kind=9):M=x.ld:=by
 have b:∀ l K,zjA x l x.ld K->l=[]->K=x.ld:=fun l K h e=>by
  cases h with
  | nil=>rfl
  | _=>simp at e
 exact b _ _ h.done (by rw[zig h9];rfl)
theorem zkY {x:Off}{y:OpD}{m:Nat}{a:Int}{i:Off}{code name price:Int}(h:zhG x a y m i code name price)(g:ZZ x y m)(h9:y.kind=9):code=0:=by
 rcases h with⟨c,_,_,_,d⟩|⟨_,c,_,_,_,j,M,v,k,_,b,_⟩|⟨_,M,x3,_,f,_⟩
 ·exact g.zero d
 ·rw[zig h9] at b;simp at b
 ·rcases f with⟨k,_,e,_⟩|⟨k,_,e,_⟩|⟨k,_⟩|⟨k,_⟩|⟨k,_⟩
  ·exact e
  ·exact e
  all_goals (exfalso;(try unfold In at k);omega)
def RowsN (x:Off)(y:OpD)(m:Nat)(code:Int)(N:Nat)(T:Nat->zcB):Prop :=
 (N=0/\(y.kind=9->code≠0)) ∨
 (y.kind=9/\ZZ x y m/\N=(Qn (x.ld (zW x.sa (y.lg 0) x.san)) x.bk (y.lg 0) x.bkn).length/\T=zeM (Qn (x.ld (zW x.sa (y.lg 0) x.san)) x.bk (y.lg 0) x.bkn))
def znZ (x:Off):Off:={ x with san:=0,ldn:=0,bkn:=0 }
def Res (x:Off)(a:Int)(y:OpD)(m:Nat)(b:Off)(code name price:Int)(N:Nat)(T:Nat->zcB)(ok:Bool):Prop :=
 ((Zk x/\zbn x.bkn x.bk a)/\ok=true/\zhG x a y m b code name price/\RowsN x y m code N T) ∨
 (¬ (Zk x/\zbn x.bkn x.bk a)/\ok=false/\b=znZ x/\code=0/\name=0/\price=0/\N=0)
theorem Res.one {x:Off}{b:Int}{y:OpD}{m:Nat}{a s:Off}{c c' n u p p':Int}{N j:Nat}{T l:Nat->zcB}{o v:Bool}(h:Res x b y m a c n p N T o)(A:Res x b y m s c' u p' j l v):a=s/\c=c'/\n=u/\p=p'/\N=j/\(N=0∨T=l)/\o=v:=by
 rcases h with⟨⟨w,z⟩,rfl,h1,h2⟩|⟨q,rfl,rfl,rfl,rfl,rfl,rfl⟩ <;> rcases A with⟨⟨f,g⟩,rfl,d,e⟩|⟨B,rfl,rfl,rfl,rfl,rfl,rfl⟩
 ·obtain⟨rfl,rfl,rfl,rfl⟩:=h1.one w z d
  refine⟨rfl,rfl,rfl,rfl,?_⟩
  rcases h2 with⟨rfl,r⟩|⟨k,r,rfl,rfl⟩ <;> rcases e with⟨rfl,i⟩|⟨t,i,rfl,rfl⟩
  ·exact⟨rfl,.inl rfl,rfl⟩
  ·exact absurd (zkY h1 i t) (r t)
  ·exact absurd (zkY h1 r k) (i k)
  ·exact⟨rfl,.inr rfl,rfl⟩
 ·exact absurd ⟨w,z⟩ B
 ·exact absurd ⟨f,g⟩ q
 ·exact⟨rfl,rfl,rfl,rfl,rfl,.inl rfl,rfl⟩
def zmO (base b:Nat)(a:Off)(code name price:Int)(N:Nat)(T:Nat->zcB)(ok:Bool)(e:Ending)(w':World):Prop :=
 ∃ a1 c1 a2 c2 a3 c3 ar cr L C A B D E,e=.returned (.tuple #[.agg #[.slice a1 a.san c1,.slice a2 a.ldn c2,.slice a3 a.bkn c3],.agg #[int i64 code,int i64 name,int i64 price,.slice ar N cr],.bool ok]) /\
  zF w' base (.slice a1 a.san c1) (.slice a2 a.ldn c2) (.slice a3 a.bkn c3) a.san a.ldn a.bkn a L C A B D E/\w'.ownsRow b 203 5 (.slice ar N cr) N (qW T N)
theorem zoa (T a:Nat->zcB){N:Nat}(h:N=0∨T=a):qW T N=qW a N:=by
 rcases h with rfl|rfl <;> rfl
theorem zbS (w:World)(base e size:Nat):w.ownsRow base e size (.slice none 0 0) 0 []:=⟨by simp,.inl ⟨rfl,rfl⟩⟩
theorem zmi (w:World)(base:Nat)(x:Off):zF w base (.slice none 0 0) (.slice none 0 0) (.slice none 0 0) 0 0 0 x (fun _=>.nilFunc) (fun _=>.nilFunc) (fun _=>.nilFunc) (fun _=>.nilFunc) (fun _=>.nilFunc) (fun _=>.nilFunc) :=
 ⟨⟨zbS w base _ _,fun i h=>absurd h (by omega),fun i h=>absurd h (by omega),fun i j _ h=>absurd h (by omega)⟩,
  ⟨zbS w base _ _,fun i h=>absurd h (by omega),fun i h=>absurd h (by omega),fun i h=>absurd h (by omega),⟨fun i j h=>absurd h (by omega),fun i j h=>absurd h (by omega),fun i j h=>absurd h (by omega)⟩⟩,
  ⟨zbS w base _ _,fun i h=>absurd h (by omega),fun i j _ h=>absurd h (by omega)⟩⟩
theorem zmO.no (x:Off)(base a:Nat)(T:Nat->zcB)(w':World):zmO base a (znZ x) 0 0 0 0 T false (.returned (.tuple #[.agg #[.slice none 0 0,.slice none 0 0,.slice none 0 0],.agg #[int i64 0,int i64 0,int i64 0,.slice none 0 0],.bool false])) w' :=
 ⟨none,0,none,0,none,0,none,0,_,_,_,_,_,_,rfl,zmi w' base (znZ x),zbS w' a _ _⟩
theorem zmO.rows {base b:Nat}{c:Off}{code name price:Int}{N:Nat}{T a:Nat->zcB}{ok:Bool}{e:Ending}{w':World}(h:zmO base b c code name price N T ok e w')(q:N=0∨T=a):zmO base b c code name price N a ok e w':=by
 unfold zmO at h ⊢;rw[zoa T a q] at h;exact h
theorem works_len {x:Off}{y:OpD}{m:Nat}{a:Int}(d:Zk x)(b:ZZ x y m):(qk x a y m).length<=18:=by
 unfold qk;have q1:=zjg b.1;have q2:=QD true (x.bk m).who ⟨(x.bk m).pe,(x.bk m).len,(x.bk m).hei,(x.bk m).cl,(x.bk m).all,(x.bk m).be⟩ (x.bk m).lg (x.bk m).lgn;have q3:=QD false a ⟨y.pe,y.len,y.hei,y.cl,y.all,y.be⟩ y.lg y.lgn;have f:Qt y.kind->(x.bk m).lgn<=3:=fun e=>(d.2.2.2.2.1 m (b.2.2 (zaR e)).2.1).2.2.2.1.2.1
 rw[List.length_append];have p1:(if Qt y.kind then Zh true (x.bk m).who ⟨(x.bk m).pe,(x.bk m).len,(x.bk m).hei,(x.bk m).cl,(x.bk m).all,(x.bk m).be⟩ (x.bk m).lg (x.bk m).lgn else []).length<=9:=by
  by_cases c:Qt y.kind
  ·rw[if_pos c];have:=f c;omega
  ·rw[if_neg c];decide
 have p2:(if zJ y.kind then Zh false a ⟨y.pe,y.len,y.hei,y.cl,y.all,y.be⟩ y.lg y.lgn else []).length<=9:=by
  by_cases c:zJ y.kind
  ·rw[if_pos c];omega
  ·rw[if_neg c];decide
 omega
def PerfAns (pe:Nat->Addr)(x:Off)(b:Int)(y:OpD)(m base l:Nat)(e:Ending)(w':World):Prop :=
 (∃ (a:Off) (d:Option Addr) (h:Nat) (f:Option Addr) (i:Nat) (g:Option Addr) (j:Nat) (name price:Int) (k:Value) (L C A B D E:Nat->Value) (M:Nat->zY),e=.returned (.tuple #[.agg #[.slice d a.san h,.slice f a.ldn i,.slice g a.bkn j],.agg #[int i64 0,int i64 name,int i64 price,k]]) /\
  zF w' base (.slice d a.san h) (.slice f a.ldn i) (.slice g a.bkn j) a.san a.ldn a.bkn a L C A B D E/\zhG x b y m a 0 name price/\zav x (qk x b y m) (qk x b y m).length M/\zdA { x with ld:=M } y l w' k) ∨
 (∃ c:Nat,1<=c/\c<=8/\e=zmK pe c/\zhG x b y m x (c:Int) 0 0)
theorem zfS.putL {w u:World}{a c b:Value}{os:Array Value}(h:zfS w u a c b os)(q:Value):zfS w (u.setCell ⟨w.heap.size,1,none⟩ q) a q b os :=
 ⟨by simpa using zm h.bo 1 q,zD (b':=w.heap.size) h.bp 1 q (by omega),zD (b':=w.heap.size) h.br 1 q (by omega),zD (b':=w.heap.size) h.ba 1 q (by omega)⟩
theorem zmj (x:Off)(H X R:Option Addr)(c1 c2 c3 base:Nat)(L C A B D E:Nat->Value)(S:Int)(y:OpD)(r:Option Addr)(s m:Nat)(pe:Nat->Addr)(w:World)(hO:Zk x)(hs:Off.Short x 1048576)(f3:zbn x.bkn x.bk S)(hF:Zm w)(e8:∀ V,Below base w V->Zq V/\Zu V)(he:qY w pe)
  (f5:zT w r y.lgn y.lg) (f9:qj r y.lgn s) (ho:y.own.size<=1048576) (hl:y.lgn<=1048576) (hm:zac y->In y.kind 4 8->y.name=(m:Int)+1) (b4:base<=w.heap.size) (d4:zF w base (.slice H x.san c1) (.slice X x.ldn c2) (.slice R x.bkn c3) x.san x.ldn x.bkn x L C A B D E) :
  Calls Tryz.prog 53 #[.agg #[.slice H x.san c1,.slice X x.ldn c2,.slice R x.bkn c3],int i64 S,.agg #[int i64 y.kind,.string y.own,int i64 y.name,.slice r y.lgn s,int i64 y.pe,int i64 y.len,int i64 y.hei,int i64 y.cl,.bool y.all,int i64 y.be,int i64 y.unt,int i64 y.now]] w fun e w'=>PerfAns pe x S y m base w.heap.size e w'/\zx w w' (fun b=>(Value.slice R x.bkn c3).ownBlock=some b):=by
 have G:=hI hO;have HS:=hI hs;have b8:=hI f3;have HF:=hI hF;have e7:=hI e8;have HE:=hI he;have Z:Hid (zT w r y.lgn y.lg/\qj r y.lgn s):=⟨f5,f9⟩;have h0:=hI hm;have Q:=hI d4;have e3:x.bkn<=30:=hO.2.2.1;have e6:=hI hO.2.1;have n:Hid _:=zfS.start w (.slice H x.san c1) (.slice X x.ldn c2) (.slice R x.bkn c3) #[int i64 y.kind,.string y.own,int i64 y.name,.slice r y.lgn s,int i64 y.pe,int i64 y.len,int i64 y.hei,int i64 y.cl,.bool y.all,int i64 y.be,int i64 y.unt,int i64 y.now];have f:Below w.heap.size w ((((w.alloc (.cells #[.slice H x.san c1,.slice X x.ldn c2,.slice R x.bkn c3] 38)).alloc (.cells #[int i64 y.kind,.string y.own,int i64 y.name,.slice r y.lgn s,int i64 y.pe,int i64 y.len,int i64 y.hei,int i64 y.cl,.bool y.all,int i64 y.be,int i64 y.unt,int i64 y.now] 47)).alloc (.cells #[.slice none 0 0,.slice none 0 0,.slice none 0 0] 38)).alloc (.cells #[int i64 0,int i64 0,int i64 0,.slice none 0 0] 41)):=zk (zk (zk (zk bZ _) _) _) _;clear hO hs f3 hF e8 he f5 f9 hm d4;go_enter Tryz.func53,Tryz.ntmps53;go_upto_region 1 with fail;generalize (((w.alloc (.cells #[.slice H x.san c1,.slice X x.ldn c2,.slice R x.bkn c3] 38)).alloc (.cells #[int i64 y.kind,.string y.own,int i64 y.name,.slice r y.lgn s,int i64 y.pe,int i64 y.len,int i64 y.hei,int i64 y.cl,.bool y.all,int i64 y.be,int i64 y.unt,int i64 y.now] 47)).alloc (.cells #[.slice none 0 0,.slice none 0 0,.slice none 0 0] 38)).alloc (.cells #[int i64 0,int i64 0,int i64 0,.slice none 0 0] 41)=U at n f ⊢;obtain⟨f0,f1,f2⟩:=ce3 n.out.bo;obtain⟨g0,g1,g2,g3,g4,g5,g6,g7,g8,g9,J,N⟩:=zeW n.out.bp;go_wp2_with fail;clear f0 f1 f2 g0 g1 g2 g3 g4 g5 g6 g7 g8 g9 J N;refine(asked_any x y H r c1 s m pe U G.out HS.out (HF.out.below f) (HE.out.below f) ⟨r,s,rfl,Z.out.1.below f,Z.out.2⟩ ho hl (Z.out.1.below f) (Q.out.below f).sa.at).mono ?_;rintro e U1 ⟨hA|⟨c,h1,h8,rfl,e4⟩,o⟩
 case inr =>
  have b5:(c:Int)≠0:=by omega
  unfold zmK;dsimp only;exact⟨rfl,.inr ⟨c,h1,h8,rfl,.inl ⟨b5,rfl,rfl,rfl,e4⟩⟩,zx.of_below (ze f o)⟩
 obtain⟨rfl,f7,hR⟩:=hA;replace n:Hid _:=n.out.below o;replace f:=ze f o;clear o U;have d6:Hid (zac y/\¬ Qk x.san x y):=⟨f7,hR⟩;clear f7 hR;obtain⟨f0,f1,f2⟩:=ce3 n.out.bo;obtain⟨g0,g1,g2,g3,g4,g5,g6,g7,g8,g9,J,N⟩:=zeW n.out.bp;go_wp2_with fail;clear f0 f1 f2 g0 g1 g2 g3 g4 g5 g6 g7 g8 g9 J N;refine(named_any x y R r c3 s m pe U1 e3 (HF.out.below f) (HE.out.below f) d6.out.1 d6.out.2 h0.out (Q.out.below f).bk.at).mono ?_;rintro e U2 ⟨hA|⟨c,h1,h8,rfl,e4⟩,o⟩
 case inr =>
  have b5:(c:Int)≠0:=by omega
  unfold zmK;dsimp only;exact⟨rfl,.inr ⟨c,h1,h8,rfl,.inl ⟨b5,rfl,rfl,rfl,e4⟩⟩,zx.of_below (ze f o)⟩
 obtain⟨rfl,f6⟩:=hA;have t:=hI f6;replace n:Hid _:=n.out.below o;replace f:=ze f o;clear o U1 f6 d6;go_upto_region 3 with fail;replace n:Hid _:=n.out.below (Below.refl _ U2).drew;replace f:=f.drew;refine qg 8 8 (fun u=>u.cell? ⟨w.heap.size,0,none⟩=some (.slice H x.san c1)/\u.cell? ⟨w.heap.size,1,none⟩=some (.slice X x.ldn c2)/\u.cell? ⟨w.heap.size,2,none⟩=some (.slice R x.bkn c3)/\u.cell? ⟨w.heap.size+1,0,none⟩=some (int i64 y.kind)/\u.cell? ⟨w.heap.size+1,1,none⟩=some (.string y.own)/\u.cell? ⟨w.heap.size+1,2,none⟩=some (int i64 y.name)/\u.cell? ⟨w.heap.size+1,3,none⟩=some (.slice r y.lgn s)/\u.cell? ⟨w.heap.size+1,4,none⟩=some (int i64 y.pe)/\u.cell? ⟨w.heap.size+1,5,none⟩=some (int i64 y.len)/\u.cell? ⟨w.heap.size+1,6,none⟩=some (int i64 y.hei)/\u.cell? ⟨w.heap.size+1,7,none⟩=some (int i64 y.cl)/\u.cell? ⟨w.heap.size+1,8,none⟩=some (.bool y.all)/\u.cell? ⟨w.heap.size+1,9,none⟩=some (int i64 y.be)/\u.cell? ⟨w.heap.size+1,10,none⟩=some (int i64 y.unt)/\u.cell? ⟨w.heap.size+1,11,none⟩=some (int i64 y.now)) rfl (by kernel_rfl) (⟨za n.out.bo 0 _ rfl,za n.out.bo 1 _ rfl,za n.out.bo 2 _ rfl,za n.out.bp 0 _ rfl,za n.out.bp 1 _ rfl,za n.out.bp 2 _ rfl,za n.out.bp 3 _ rfl,za n.out.bp 4 _ rfl,za n.out.bp 5 _ rfl,za n.out.bp 6 _ rfl,za n.out.bp 7 _ rfl,za n.out.bp 8 _ rfl,za n.out.bp 9 _ rfl,za n.out.bp 10 _ rfl,za n.out.bp 11 _ rfl⟩) (fun hS=>?_)
 simp only[List.replicate_succ,List.replicate_zero];generalize U2.drew=u0 at n f hS ⊢
 (refine tkN 0 (v:=?_) rfl (by kernel_rfl) (fun _ _ _ h=>h) rfl (by assumption) ?_ ?_;rotate_left;(focus(intro w' h;(try dsimp only at h);go_simp;try with_reducible rfl));simp only[Act.put,sB,sZ,sS])
 (refine tkN 1 (v:=?_) rfl (by kernel_rfl) (fun _ _ _ h=>h) rfl (by assumption) ?_ ?_;rotate_left;(focus(intro w' h;(try dsimp only at h);go_simp;try with_reducible rfl));simp only[Act.put,sB,sZ,sS])
 (refine tkN 2 (v:=?_) rfl (by kernel_rfl) (fun _ _ _ h=>h) rfl (by assumption) ?_ ?_;rotate_left;(focus(intro w' h;(try dsimp only at h);go_simp;try with_reducible rfl));simp only[Act.put,sB,sZ,sS])
 (refine tkN 3 (v:=?_) rfl (by kernel_rfl) (fun _ _ _ h=>h) rfl (by assumption) ?_ ?_;rotate_left;(focus(intro w' h;(try dsimp only at h);go_simp;try with_reducible rfl));simp only[Act.put,sB,sZ,sS])
 (refine tkN 4 (v:=?_) rfl (by kernel_rfl) (fun _ _ _ h=>h) rfl (by assumption) ?_ ?_;rotate_left;(focus(intro w' h;(try dsimp only at h);go_simp;try with_reducible rfl));simp only[Act.put,sB,sZ,sS])
 refine zj (rs:=[5]) (by kernel_rfl) (by simp) ?_
 refine zc.consL rfl (fun K hK=>?_) zc.nil
 go_simp;go_at_call 109;obtain⟨k,hk,f4,h5⟩:=zjj t.out.1;refine Calls.mono (zjd x R c3 S y r s k m u0 (HF.out.below f) hk f4 (Q.out.below f).bk.at (fun hf=>by obtain⟨q1,q2,_⟩:=t.out.2.2 (zaR hf);have e9:=G.out.2.2.2.2.1 m q2;exact⟨q1,q2,e9.2.2.2.1.2.1,zkj e9.2.2.2.2.1⟩) (fun hh=>⟨(t.out.legs hh).2.1,zkj (t.out.party hh)⟩) (Z.out.1.below f) (by omega)) ?_
 rintro e u1 ⟨⟨v,rfl,c9⟩,o⟩;clear hk f4 h5 k;obtain⟨l,c0⟩:∃ l,l=qk x S y m:=⟨_,rfl⟩;have d8:Hid (l.Pairwise zdu/\(∀ v ∈ l,Apt x x.ld v/\WkOk x v)/\l.length<=18):=by
  rw[c0];exact⟨(zeK G.out t.out b8.out.1 b8.out.2).1,(zeK G.out t.out b8.out.1 b8.out.2).2,works_len G.out t.out⟩
 rw[← c0] at c9;have HL:=hI c0;obtain⟨aw,cw,rfl,_⟩:=zp c9;have h4:Hid _:=c9;dsimp only;replace n:Hid _:=n.out.below o;replace f:=ze f o;refine hK.out _ _ (⟨za n.out.bo 0 _ rfl,za n.out.bo 1 _ rfl,za n.out.bo 2 _ rfl,za n.out.bp 0 _ rfl,za n.out.bp 1 _ rfl,za n.out.bp 2 _ rfl,za n.out.bp 3 _ rfl,za n.out.bp 4 _ rfl,za n.out.bp 5 _ rfl,za n.out.bp 6 _ rfl,za n.out.bp 7 _ rfl,za n.out.bp 8 _ rfl,za n.out.bp 9 _ rfl,za n.out.bp 10 _ rfl,za n.out.bp 11 _ rfl⟩) (fun hS=>?_)
 clear hK K o c9 c0;simp only[sZ,sS];refine zj (rs:=[6]) (by kernel_rfl) (by simp) ?_
 refine zc.consL rfl (fun K hK=>?_) zc.nil
 go_simp;go_at_call 108;refine Calls.mono (znU x H X R c1 c2 c3 L C A B D E l aw cw base _ pe u1 G.out HS.out d8.out.1 d8.out.2.1 (HE.out.below f) (Q.out.below f) (Nat.le_trans b4 f.size) h4.out d8.out.2.2) ?_;rintro e u2 ⟨hA|⟨j,M,v,k,c,rfl,h1,h8,d0,hv,hk,h6,i0⟩,o⟩
 case inr =>
  have b5:(c:Int)≠0:=by omega
  unfold zmK;dsimp only;exact⟨rfl,.inr ⟨c,h1,h8,rfl,.inr (.inl ⟨t.out,b5,rfl,rfl,rfl,j,M,v,k,by rw[← HL.out];exact d0,by rw[← HL.out];exact hv,hk,h6,i0⟩)⟩,zx.of_below (ze f o)⟩
 obtain⟨M,ga,gc,A2,B2,D2,rfl,d0,f8⟩:=hA;have a4:=hI d0;have b9:Hid _:=f8;dsimp only;replace n:Hid _:=n.out.below o;replace f:=ze f o;refine hK.out _ _ (⟨za n.out.bo 0 _ rfl,za n.out.bo 1 _ rfl,za n.out.bo 2 _ rfl,za n.out.bp 0 _ rfl,za n.out.bp 1 _ rfl,za n.out.bp 2 _ rfl,za n.out.bp 3 _ rfl,za n.out.bp 4 _ rfl,za n.out.bp 5 _ rfl,za n.out.bp 6 _ rfl,za n.out.bp 7 _ rfl,za n.out.bp 8 _ rfl,za n.out.bp 9 _ rfl,za n.out.bp 10 _ rfl,za n.out.bp 11 _ rfl⟩) (fun hS=>?_)
 clear hK K o d0 f8;simp only[sZ,sS]
 (refine tkN 7 (v:=?_) rfl (by kernel_rfl) (fun _ _ _ h=>h) rfl (by assumption) ?_ ?_;rotate_left;(focus(intro w' h;(try dsimp only at h);go_simp;try with_reducible rfl));simp only[Act.put,sB,sZ,sS])
 refine zX (by kernel_rfl) ?_ _
 clear hS;obtain⟨f0,f1,f2⟩:=ce3 n.out.bo;obtain⟨g0,g1,g2,g3,g4,g5,g6,g7,g8,g9,J,N⟩:=zeW n.out.bp;go_wp2_with fail;clear f0 f1 f2 g0 g1 g2 g3 g4 g5 g6 g7 g8 g9 J N
 by_cases hf:(y.kind=2∨y.kind=3)/\30<=x.bkn
 case pos =>
  refine(ziW y r s R x.bkn c3 pe u2 (HE.out.below f) hf.1 hf.2).mono ?_;rintro e U3 ⟨rfl,o⟩;dsimp only;refine⟨rfl,.inr ⟨8,by decide,by decide,rfl,.inr (.inr ⟨t.out,M,{ x with ld:=M },by rw[← HL.out];exact a4.out,.inr (.inr (.inl ⟨hf.1,?_,rfl,rfl,rfl,rfl⟩)),fun _=>rfl,fun q=>absurd (.inl (by decide)) q⟩)⟩,zx.of_below (ze f o)⟩
  show x.bkn=30
  have:=hf.2
  omega
 have a8:Hid (y.kind=2∨y.kind=3->x.bkn<30):=fun q=>by
  by_cases d:x.bkn<30
  ·exact d
  ·exact absurd ⟨q,by omega⟩ hf
 refine(zkL y r s R x.bkn c3 pe u2 (HE.out.below f) (by by_cases q:y.kind=2∨y.kind=3;exact .inr (a8.out q);exact .inl q)).mono ?_
 rintro e U3 ⟨rfl,o⟩;replace n:Hid _:=n.out.below o;replace b9:Hid _:=b9.out.below o;replace f:=ze f o;clear o hf
 by_cases k1:y.kind=1
 ·have d1:(y.kind != 1)=false:=by simpa using k1
  have d2:(y.kind == 1)=true:=by simpa using k1
  have Y:=hI k1;clear k1;have HO:Hid _:=Q.out.below f;obtain⟨f0,f1,f2⟩:=ce3 n.out.bo;obtain⟨g0,g1,g2,g3,g4,g5,g6,g7,g8,g9,J,N⟩:=zeW n.out.bp;go_wp2_with fail;refine(zif x H X R c1 c2 c3 base L C A B D E S y r s m U3 G.out.1 e3 e6.out (fun i hi=>(G.out.2.2.2.2.1 i hi).2.2.2.1) t.out a8.out (fun V hV=>e7.out V ((f.mono b4).trans (hV.mono (Nat.le_refl _)))) (Z.out.1.below f) (fun q=>⟨HS.out,G.out.2.2.2.1⟩) (Nat.le_trans b4 f.size) HO.out).mono ?_
  rintro e ws ⟨⟨z,b3,d3,name,price,rv,Ez,rfl,b7,b6,P⟩,O⟩;have a9:Hid _:=b7;have a5:=hI b6;have b1:Hid _:=P;have F:=O.blk n.out.br (fun e=>zQ HO.out.bk.row n.out.br (by decide) _ e rfl)
  have I:=O.blk n.out.ba (fun e=>zQ HO.out.bk.row n.out.ba (by decide) _ e rfl)
  have a6:=hI ((zx.of_below f).trans O);obtain⟨ra,rn,rc,rfl⟩:∃ ra rn rc,rv=.slice ra rn rc:=by
   by_cases h9:y.kind=9
   ·obtain⟨_,_,_,h3⟩:=P.1 h9
    obtain⟨ao,c,e,_⟩:=zp h3;exact⟨ao,_,c,e⟩
   ·exact⟨none,0,0,P.2 h9⟩
  clear b7 b6 P O;clear f0 f1 f2 g0 g1 g2 g3 g4 g5 g6 g7 g8 g9 J N;obtain⟨r0,r1,r2⟩:=ce3 F;obtain⟨i3,e5,i4⟩:=fe3 F;obtain⟨t0,t1,t2,t3⟩:=ce4 I;obtain⟨i5,i6,i7,i8⟩:=fe4 I;have k3:=QG ws (w.heap.size+1+1) (.slice H x.san c1) (.slice X x.ldn c2) (.slice b3 z.bkn d3);have k4:=QH (qt ws (w.heap.size+1+1) (.slice H x.san c1) (.slice X x.ldn c2) (.slice b3 z.bkn d3)) (w.heap.size+1+1+1) (int i64 0) (int i64 name) (int i64 price) (.slice ra rn rc);have W:=k3.blk I (show ¬ w.heap.size+1+1+1=w.heap.size+1+1 by omega)
  have b0:Hid _:=(a9.out.box k3 F (by decide)).box k4 W (by decide)
  have b2:Hid _:=k4.blk (zcq F (.slice H x.san c1) (.slice X x.ldn c2) (.slice b3 z.bkn d3)) (show ¬ w.heap.size+1+1=w.heap.size+1+1+1 by omega)
  have d9:Hid _:=zcJ W (int i64 0) (int i64 name) (int i64 price) (.slice ra rn rc);have a7:Hid _:=lowK a6.out (.slice H x.san c1) (.slice X x.ldn c2) (.slice b3 z.bkn d3) (int i64 0) (int i64 name) (int i64 price) (.slice ra rn rc);have a0:Hid _:=zeQ b1.out ((k3.mono (T:=fun b=>b=w.heap.size+1+1∨b=w.heap.size+1+1+1) (fun b e=>.inl e)).trans (k4.mono (fun b e=>.inr e))) (fun g e=>by rcases e with e|e;exact⟨_,_,by rw[e];exact F,by decide⟩;exact⟨_,_,by rw[e];exact I,by decide⟩)
  unfold ZK qt at b0 b2 a7 a0;clear k3 k4 W a9 b1 a6 I F;go_wp2;have Z3:=b2.out;have Z4:=d9.out;unfold qt at Z4;obtain⟨z0,z1,z2⟩:=ce3 Z3;obtain⟨t0,t1,t2,t3⟩:=ce4 Z4;refine bodyPost_ret (v:=.tuple #[.agg #[.slice H x.san c1,.slice X x.ldn c2,.slice b3 z.bkn d3],.agg #[int i64 0,int i64 name,int i64 price,.slice ra rn rc]]) (by simp[results,Tryz.results53,go_sem,z0,z1,z2,t0,t1,t2,t3]) rfl ?_
  obtain⟨e1,e2⟩:=a5.out.size;have hz:z=x/\name=0/\price=zE ⟨y.pe,y.len,y.hei,y.cl,y.all,y.be⟩ y.lgn:=by
   rcases a5.out with⟨_,q1,_,q2,q3⟩|⟨q,_⟩|⟨q,_⟩|⟨q,_⟩|⟨q,_⟩
   ·exact⟨q1,q2,q3⟩
   all_goals (have:=Y.out;first|omega|(unfold In at q;omega))
  have h7:=a0.out;refine⟨.inl ⟨z,H,c1,X,c2,b3,d3,name,price,_,L,C,A,B,D,Ez,M,by rw[e1,e2],by rw[e1,e2];exact b0.out,.inr (.inr ⟨t.out,M,{ x with ld:=M },by rw[← HL.out];exact a4.out,.inl ⟨Y.out,rfl,rfl,hz.2.1,hz.2.2⟩,fun _=>hz.1,fun q=>absurd (.inr Y.out) q⟩),by rw[← HL.out];exact a4.out,fun q=>by have:=Y.out;omega,h7.2⟩,a7.out⟩
 ·have d1:(y.kind != 1)=true:=by simpa using k1
  have d2:(y.kind == 1)=false:=by simpa using k1
  have Y:=hI k1;clear k1;have HO:Hid (zF U3 base (.slice H x.san c1) (.slice ga x.ldn gc) (.slice R x.bkn c3) x.san x.ldn x.bkn { x with ld:=M } L C A2 B2 D2 E):=⟨(Q.out.below f).sa,b9.out,(Q.out.below f).bk⟩;have r1:=za n.out.bo 1 _ rfl;have e5:=zg n.out.bo 1;have g0:=za n.out.bp 0 _ rfl;have d7:Hid _:=n.out.putL (.slice ga x.ldn gc);have d5:Hid _:=HO.out.box ((zx.refl U3 (fun b=>b=w.heap.size)).set (a:=⟨w.heap.size,1,none⟩) rfl (.slice ga x.ldn gc)) n.out.bo (by decide)
  have e0:Below w.heap.size w (U3.setCell ⟨w.heap.size,1,none⟩ (.slice ga x.ldn gc)):=f.setCell (p:=⟨w.heap.size,1,none⟩) (Nat.le_refl _) _;go_upto_region 7 with fail;generalize U3.setCell ⟨w.heap.size,1,none⟩ (.slice ga x.ldn gc)=U4 at d7 d5 e0 ⊢;clear r1 e5 g0 n HO f b9;have n:=d7;have HO:=d5;have f:=e0;clear d7 d5 e0;obtain⟨f0,f1,f2⟩:=ce3 n.out.bo;obtain⟨g0,g1,g2,g3,g4,g5,g6,g7,g8,g9,J,N⟩:=zeW n.out.bp;go_wp2_with fail;refine(zif { x with ld:=M } H ga R c1 gc c3 base L C A2 B2 D2 E S y r s m U4 G.out.1 e3 e6.out (fun i hi=>(G.out.2.2.2.2.1 i hi).2.2.2.1) t.out a8.out (fun V hV=>e7.out V ((f.mono b4).trans (hV.mono (Nat.le_refl _)))) (Z.out.1.below f) (fun q=>by have hM:M=x.ld:=zav.nine (by rw[← HL.out];exact a4.out) q;subst hM;exact⟨HS.out,G.out.2.2.2.1⟩) (Nat.le_trans b4 f.size) HO.out).mono ?_
  rintro e ws ⟨⟨z,b3,d3,name,price,rv,Ez,rfl,b7,b6,P⟩,O⟩;have a9:Hid _:=b7;have a5:=hI b6;have b1:Hid _:=P;have F:=O.blk n.out.br (fun e=>zQ HO.out.bk.row n.out.br (by decide) _ e rfl)
  have I:=O.blk n.out.ba (fun e=>zQ HO.out.bk.row n.out.ba (by decide) _ e rfl)
  have a6:=hI ((zx.of_below f).trans O);obtain⟨ra,rn,rc,rfl⟩:∃ ra rn rc,rv=.slice ra rn rc:=by
   by_cases h9:y.kind=9
   ·obtain⟨_,_,_,h3⟩:=P.1 h9
    obtain⟨ao,c,e,_⟩:=zp h3;exact⟨ao,_,c,e⟩
   ·exact⟨none,0,0,P.2 h9⟩
  clear b7 b6 P O;clear f0 f1 f2 g0 g1 g2 g3 g4 g5 g6 g7 g8 g9 J N;obtain⟨r0,r1,r2⟩:=ce3 F;obtain⟨i3,e5,i4⟩:=fe3 F;obtain⟨t0,t1,t2,t3⟩:=ce4 I;obtain⟨i5,i6,i7,i8⟩:=fe4 I;have k3:=QG ws (w.heap.size+1+1) (.slice H x.san c1) (.slice ga x.ldn gc) (.slice b3 z.bkn d3);have k4:=QH (qt ws (w.heap.size+1+1) (.slice H x.san c1) (.slice ga x.ldn gc) (.slice b3 z.bkn d3)) (w.heap.size+1+1+1) (int i64 0) (int i64 name) (int i64 price) (.slice ra rn rc);have W:=k3.blk I (show ¬ w.heap.size+1+1+1=w.heap.size+1+1 by omega)
  have b0:Hid _:=(a9.out.box k3 F (by decide)).box k4 W (by decide)
  have b2:Hid _:=k4.blk (zcq F (.slice H x.san c1) (.slice ga x.ldn gc) (.slice b3 z.bkn d3)) (show ¬ w.heap.size+1+1=w.heap.size+1+1+1 by omega)
  have d9:Hid _:=zcJ W (int i64 0) (int i64 name) (int i64 price) (.slice ra rn rc);have a7:Hid _:=lowK a6.out (.slice H x.san c1) (.slice ga x.ldn gc) (.slice b3 z.bkn d3) (int i64 0) (int i64 name) (int i64 price) (.slice ra rn rc);have a0:Hid _:=zeQ b1.out ((k3.mono (T:=fun b=>b=w.heap.size+1+1∨b=w.heap.size+1+1+1) (fun b e=>.inl e)).trans (k4.mono (fun b e=>.inr e))) (fun g e=>by rcases e with e|e;exact⟨_,_,by rw[e];exact F,by decide⟩;exact⟨_,_,by rw[e];exact I,by decide⟩)
  unfold ZK qt at b0 b2 a7 a0;clear k3 k4 W a9 b1 a6 I F;go_wp2;have Z3:=b2.out;have Z4:=d9.out;unfold qt at Z4;obtain⟨z0,z1,z2⟩:=ce3 Z3;obtain⟨t0,t1,t2,t3⟩:=ce4 Z4;refine bodyPost_ret (v:=.tuple #[.agg #[.slice H x.san c1,.slice ga x.ldn gc,.slice b3 z.bkn d3],.agg #[int i64 0,int i64 name,int i64 price,.slice ra rn rc]]) (by simp[results,Tryz.results53,go_sem,z0,z1,z2,t0,t1,t2,t3]) rfl ?_
  obtain⟨e1,e2⟩:=a5.out.size;dsimp only at e1 e2;refine⟨.inl ⟨z,H,c1,ga,gc,b3,d3,name,price,_,L,C,A2,B2,D2,Ez,M,by rw[e1,e2],by rw[e1,e2];exact b0.out,.inr (.inr ⟨t.out,M,z,by rw[← HL.out];exact a4.out,a5.out,fun q=>by rcases q with q|q;exact absurd rfl q;exact absurd q Y.out,fun _=>rfl⟩),by rw[← HL.out];exact a4.out,fun q=>by obtain⟨k,q1,q2,q3⟩:=a0.out.1 q;exact⟨k,q1,q2,zu q3 f.size⟩,a0.out.2⟩,a7.out⟩
structure DSit (u:World)(b c d:Nat)(e f g:Value)(a:Int)(os:Array Value):Prop where
 bo:u.heap[b]?=some (.cells #[e,f,g] 38 (0,0))
 bb:u.heap[c]?=some (.cells #[int i64 a] 3 (0,0))
 bp:u.heap[d]?=some (.cells os 47 (0,0))
theorem DSit.below {u j:World}{c d e:Nat}{f g i:Value}{a:Int}{os:Array Value}(h:DSit u c d e f g i a os)(b:Below u.heap.size u j):DSit j c d e f g i a os:=⟨zb h.bo b,zb h.bb b,zb h.bp b⟩
theorem DSit.box {u n:World}{c d f g:Nat}{k l m:Value}{a:Int}{os:Array Value}(h:DSit u c d f k l m a os)(j:zx u n (fun b=>b=g))(i:g≠c/\g≠d/\g≠f):DSit n c d f k l m a os:=⟨j.blk h.bo (fun e=>i.1 e.symm),j.blk h.bb (fun e=>i.2.1 e.symm),j.blk h.bp (fun e=>i.2.2 e.symm)⟩
def Dop1W (x:Off)(b:Int)(y:OpD)(m base k l:Nat)(w':World):Prop :=
 ∃ (a:Off) (c:Option Addr) (f:Nat) (d:Option Addr) (g:Nat) (e:Option Addr) (h:Nat) (name price:Int) (i:Option Addr) (N j:Nat) (T:Nat->zcB) (L C A B D E:Nat->Value),w'.heap[k]?=some (.cells #[.slice c a.san f,.slice d a.ldn g,.slice e a.bkn h] 38 (0,0))/\w'.heap[l]?=some (.cells #[int i64 0,int i64 name,int i64 price,.slice i N j] 41 (0,0)) /\
  zF w' base (.slice c a.san f) (.slice d a.ldn g) (.slice e a.bkn h) a.san a.ldn a.bkn a L C A B D E/\zhG x b y m a 0 name price/\RowsN x y m 0 N T/\w'.ownsRow base 203 5 (.slice i N j) N (qW T N)
theorem dop1_any (x:Off)(a1 a2 a3 n:Option Addr)(c1 c2 c3 F m S g1 j r G:Nat)(o:Int)(y:OpD)(pe:Nat->Addr)(w:World)(hO:Zk x)(hs:Off.Short x 1048576)(b6:zbn x.bkn x.bk o)(hF:Zm w)(hT:Zq w/\Zu w)(he:qY w pe)
  (c9:Off.Is w [.slice a1 x.san c1,.slice a2 x.ldn c2,.slice a3 x.bkn c3] x) (b8:zT w n y.lgn y.lg) (d5:qj n y.lgn F) (ho:y.own.size<=1048576) (hl:y.lgn<=1048576) (hm:zac y->In y.kind 4 8->y.name=(m:Int)+1) (W:DSit w S g1 j (.slice a1 x.san c1) (.slice a2 x.ldn c2) (.slice a3 x.bkn c3) o #[int i64 y.kind,.string y.own,int i64 y.name,.slice n y.lgn F,int i64 y.pe,int i64 y.len,int i64 y.hei,int i64 y.cl,.bool y.all,int i64 y.be,int i64 y.unt,int i64 y.now]) (h3:w.heap[r]?=some (.cells #[.slice none 0 0,.slice none 0 0,.slice none 0 0] 38 (0,0))) (h4:w.heap[G]?=some (.cells #[int i64 0,int i64 0,int i64 0,.slice none 0 0] 41 (0,0))) (b9:r≠S) :
  Calls Tryz.prog 52 #[.pointer (some ⟨S,0,none⟩),.pointer (some ⟨g1,0,none⟩),.pointer (some ⟨j,0,none⟩),.pointer (some ⟨r,0,none⟩),.pointer (some ⟨G,0,none⟩)] w fun e w'=>((e=.returned (.tuple #[])/\Dop1W x o y m w.heap.size r G w')∨(∃ c:Nat,1<=c/\c<=8/\e=zmK pe c/\zhG x o y m x (c:Int) 0 0))/\zx w w' (fun b=>b=r∨b=G):=by
 have a6:=hI hO;have HS:=hI hs;have d6:=hI b6;have HT:Hid (Zm w/\(Zq w/\Zu w)/\qY w pe):=⟨hF,hT,he⟩;have d8:=hI c9;have a4:Hid (zT w n y.lgn y.lg/\qj n y.lgn F):=⟨b8,d5⟩;have d7:=hI hm;have HD:=hI W;have H3:=hI h3;have H4:=hI h4;have ty:∀ {p q:Nat} {A B:Array Value} {s t:TypeId},w.heap[p]?=some (.cells A s (0,0))->w.heap[q]?=some (.cells B t (0,0))->s≠t->p≠q:=fun hp hq R e=>by
  subst e;rw[hp] at hq
  cases hq
  exact R rfl
 have O:Hid ((r≠S/\r≠g1/\r≠j)/\(G≠S/\G≠g1/\G≠j)/\G≠r):=⟨⟨b9,ty h3 W.bb (by decide),ty h3 W.bp (by decide)⟩,⟨ty h4 W.bo (by decide),ty h4 W.bb (by decide),ty h4 W.bp (by decide)⟩,ty h4 h3 (by decide)⟩
 have g:Below w.heap.size w w.drew:=(Below.refl _ w).drew;clear hO hs b6 hF hT he c9 b8 d5 hm W h3 h4 b9 ty;go_enter Tryz.func52,Tryz.ntmps52;go_upto_region 0 with fail;have a:=HD.out.below g;refine qg 10 10 (fun u=>u.cell? ⟨S,0,none⟩=some (.slice a1 x.san c1)/\u.cell? ⟨S,1,none⟩=some (.slice a2 x.ldn c2)/\u.cell? ⟨S,2,none⟩=some (.slice a3 x.bkn c3)/\u.cell? ⟨g1,0,none⟩=some (int i64 o)/\u.cell? ⟨j,0,none⟩=some (int i64 y.kind)/\u.cell? ⟨j,1,none⟩=some (.string y.own)/\u.cell? ⟨j,2,none⟩=some (int i64 y.name)/\u.cell? ⟨j,3,none⟩=some (.slice n y.lgn F)/\u.cell? ⟨j,4,none⟩=some (int i64 y.pe)/\u.cell? ⟨j,5,none⟩=some (int i64 y.len)/\u.cell? ⟨j,6,none⟩=some (int i64 y.hei)/\u.cell? ⟨j,7,none⟩=some (int i64 y.cl)/\u.cell? ⟨j,8,none⟩=some (.bool y.all)/\u.cell? ⟨j,9,none⟩=some (int i64 y.be)/\u.cell? ⟨j,10,none⟩=some (int i64 y.unt)/\u.cell? ⟨j,11,none⟩=some (int i64 y.now)) rfl (by kernel_rfl) (⟨za a.bo 0 _ rfl,za a.bo 1 _ rfl,za a.bo 2 _ rfl,za a.bb 0 _ rfl,za a.bp 0 _ rfl,za a.bp 1 _ rfl,za a.bp 2 _ rfl,za a.bp 3 _ rfl,za a.bp 4 _ rfl,za a.bp 5 _ rfl,za a.bp 6 _ rfl,za a.bp 7 _ rfl,za a.bp 8 _ rfl,za a.bp 9 _ rfl,za a.bp 10 _ rfl,za a.bp 11 _ rfl⟩) (fun hS=>?_)
 clear a;simp only[List.replicate_succ,List.replicate_zero];generalize w.drew=u0 at g hS ⊢
 (refine tkN 0 (v:=?_) rfl (by kernel_rfl) (fun _ _ _ h=>h) rfl (by assumption) ?_ ?_;rotate_left;(focus(intro w' h;(try dsimp only at h);go_simp;try with_reducible rfl));simp only[Act.put,sB,sZ,sS])
 (refine tkN 2 (v:=?_) rfl (by kernel_rfl) (fun _ _ _ h=>h) rfl (by assumption) ?_ ?_;rotate_left;(focus(intro w' h;(try dsimp only at h);go_simp;try with_reducible rfl));simp only[Act.put,sB,sZ,sS])
 (refine tkN 3 (v:=?_) rfl (by kernel_rfl) (fun _ _ _ h=>h) rfl (by assumption) ?_ ?_;rotate_left;(focus(intro w' h;(try dsimp only at h);go_simp;try with_reducible rfl));simp only[Act.put,sB,sZ,sS])
 refine zj (rs:=[1]) (by kernel_rfl) (by simp) ?_
 refine zc.consL rfl (fun K H=>?_) zc.nil
 go_simp;go_at_call 54;refine Calls.mono (zeh x a1 a2 a3 c1 c2 c3 u0 HS.out (fun i hi=>(a6.out.2.2.2.2.1 i hi).2.2.2.1.1) (d8.out.below g)) ?_
 rintro e u1 ⟨⟨n1,n2,n3,L,C,A,B,D,E,rfl,U⟩,b5⟩;have P:Hid _:=U.lower g.size;dsimp only;replace g:=ze g b5;have a:=HD.out.below g;refine H.out _ _ (⟨za a.bo 0 _ rfl,za a.bo 1 _ rfl,za a.bo 2 _ rfl,za a.bb 0 _ rfl,za a.bp 0 _ rfl,za a.bp 1 _ rfl,za a.bp 2 _ rfl,za a.bp 3 _ rfl,za a.bp 4 _ rfl,za a.bp 5 _ rfl,za a.bp 6 _ rfl,za a.bp 7 _ rfl,za a.bp 8 _ rfl,za a.bp 9 _ rfl,za a.bp 10 _ rfl,za a.bp 11 _ rfl⟩) (fun hS=>?_)
 clear H K b5 U a;simp only[sZ,sS];refine zj (rs:=[4]) (by kernel_rfl) (by simp) ?_
 refine zc.consL rfl (fun K H=>?_) zc.nil
 go_simp;go_at_call 53;refine Calls.mono (zmj x (some ⟨n1,0,none⟩) (some ⟨n2,0,none⟩) (some ⟨n3,0,none⟩) x.san x.ldn x.bkn w.heap.size L C A B D E o y n F m pe u1 a6.out HS.out d6.out (HT.out.1.below g) (fun V hV=>⟨HT.out.2.1.1.below (g.trans hV),HT.out.2.1.2.below (g.trans hV)⟩) (HT.out.2.2.below g) (a4.out.1.below g) a4.out.2 ho hl d7.out g.size P.out) ?_
 rintro e u2 ⟨hA|⟨c,h1,h8,rfl,I⟩,X⟩
 case inr =>
  have l:Below w.heap.size w u2:=zx.below g g.size X (fun b e=>(P.out.bk.row.lt b e).1)
  unfold zmK;dsimp only;exact⟨rfl,.inr ⟨c,h1,h8,rfl,I⟩,zx.of_below l⟩
 have l:Below w.heap.size w u2:=zx.below g g.size X (fun b e=>(P.out.bk.row.lt b e).1)
 obtain⟨J,b1,d1,b2,d2,b3,d3,name,price,rv,L2,C2,A2,B2,D2,E2,M,rfl,c0,I,R,Y⟩:=hA;have b7:w.heap.size<=u1.heap.size:=g.size;obtain⟨ra,N,rc,T,rfl,d0,d4⟩:∃ ra N rc T,rv=.slice ra N rc/\RowsN x y m 0 N T/\u2.ownsRow w.heap.size 203 5 (.slice ra N rc) N (qW T N):=by
  by_cases h9:y.kind=9
  ·obtain rfl:=R.nine h9
   obtain⟨k,rfl,_,hw⟩:=Y.1 h9;obtain⟨ar,cr,rfl,_⟩:=zp hw
   rcases I with⟨h0,_⟩|⟨_,h0,_⟩|⟨d9,_⟩
   ·exact absurd rfl h0
   ·exact absurd rfl h0
   ·exact⟨ar,_,cr,_,rfl,.inr ⟨h9,d9,rfl,rfl⟩,zu hw b7⟩
  ·exact⟨none,0,0,zeM [],Y.2 h9,.inl ⟨rfl,fun q=>absurd q h9⟩,zbS u2 _ _ _⟩
 have a5:Hid _:=c0;have a9:Hid (zhG x o y m J 0 name price/\RowsN x y m 0 N T):=⟨I,d0⟩;have z:Hid _:=d4;clear X g P c0 I R Y d0 d4 b7;dsimp only;have a:Hid _:=HD.out.below l;have q3:=zb H3.out l;have q4:=zb H4.out l;refine H.out _ _ (⟨za a.out.bo 0 _ rfl,za a.out.bo 1 _ rfl,za a.out.bo 2 _ rfl,za a.out.bb 0 _ rfl,za a.out.bp 0 _ rfl,za a.out.bp 1 _ rfl,za a.out.bp 2 _ rfl,za a.out.bp 3 _ rfl,za a.out.bp 4 _ rfl,za a.out.bp 5 _ rfl,za a.out.bp 6 _ rfl,za a.out.bp 7 _ rfl,za a.out.bp 8 _ rfl,za a.out.bp 9 _ rfl,za a.out.bp 10 _ rfl,za a.out.bp 11 _ rfl⟩) (fun hS=>?_)
 clear H K;simp only[sZ,sS]
 (refine tkN 5 (v:=?_) rfl (by kernel_rfl) (fun _ _ _ h=>h) rfl (by assumption) ?_ ?_;rotate_left;(focus(intro w' h;(try dsimp only at h);go_simp;try with_reducible rfl));simp only[Act.put,sB,sZ,sS])
 (refine tkN 6 (v:=?_) rfl (by kernel_rfl) (fun _ _ _ h=>h) rfl (by assumption) ?_ ?_;rotate_left;(focus(intro w' h;(try dsimp only at h);go_simp;try with_reducible rfl));simp only[Act.put,sB,sZ,sS])
 (refine tkN 7 (v:=?_) rfl (by kernel_rfl) (fun _ _ _ h=>h) rfl (by assumption) ?_ ?_;rotate_left;(focus(intro w' h;(try dsimp only at h);go_simp;try with_reducible rfl));simp only[Act.put,sB,sZ,sS])
 have Z:=QG u2 r (.slice b1 J.san d1) (.slice b2 J.ldn d2) (.slice b3 J.bkn d3);have k4:=QH (qt u2 r (.slice b1 J.san d1) (.slice b2 J.ldn d2) (.slice b3 J.bkn d3)) G (int i64 0) (int i64 name) (int i64 price) (.slice ra N rc);have p4:=Z.blk q4 O.out.2.2;have d:Hid _:=a.out.box Z O.out.1;have f:Hid _:=d.out.box k4 O.out.2.1;have b0:Hid _:=k4.blk (zcq q3 (.slice b1 J.san d1) (.slice b2 J.ldn d2) (.slice b3 J.bkn d3)) (show ¬ r=G from fun e=>O.out.2.2 e.symm)
 have b4:Hid _:=zcJ p4 (int i64 0) (int i64 name) (int i64 price) (.slice ra N rc);have a7:Hid _:=(a5.out.box Z q3 (by decide)).box k4 p4 (by decide)
 have kk:=(Z.mono (T:=fun b=>b=r∨b=G) (fun b e=>.inl e)).trans (k4.mono (fun b e=>.inr e))
 have a0:Hid _:=(zx.of_below l).trans kk;have a8:Hid _:=(k4.own (Z.own z.out (fun b e=>zQ z.out q3 (by decide) b e)) (fun b e=>zQ (Z.own z.out (fun b e=>zQ z.out q3 (by decide) b e)) p4 (by decide) b e))
 have Q:Hid _:=p4;unfold qt at Q d;unfold ZK qt at b0 b4 a7 a0 a8 f;clear Z k4 kk p4 q4 a a5 z l;obtain⟨r0,r1,r2⟩:=ce3 q3;obtain⟨f0,f1,f2⟩:=fe3 q3;clear q3;refine zj (rs:=[8]) (by kernel_rfl) (by simp) ?_
 refine zc.consL rfl (fun K H=>?_) zc.nil
 go_simp;refine H.out _ _ (⟨za d.out.bo 0 _ rfl,za d.out.bo 1 _ rfl,za d.out.bo 2 _ rfl,za d.out.bb 0 _ rfl,za d.out.bp 0 _ rfl,za d.out.bp 1 _ rfl,za d.out.bp 2 _ rfl,za d.out.bp 3 _ rfl,za d.out.bp 4 _ rfl,za d.out.bp 5 _ rfl,za d.out.bp 6 _ rfl,za d.out.bp 7 _ rfl,za d.out.bp 8 _ rfl,za d.out.bp 9 _ rfl,za d.out.bp 10 _ rfl,za d.out.bp 11 _ rfl⟩) (fun hS=>?_)
 clear H K d r0 f0 r1 f1 r2 f2;simp only[sZ,sS];obtain⟨r0,r1,r2,r3⟩:=ce4 Q.out;obtain⟨f0,f1,f2,f3⟩:=fe4 Q.out;refine zj (rs:=[9]) (by kernel_rfl) (by simp) ?_
 refine zc.consL rfl (fun K H=>?_) zc.nil
 go_simp;refine H.out _ _ (⟨za f.out.bo 0 _ rfl,za f.out.bo 1 _ rfl,za f.out.bo 2 _ rfl,za f.out.bb 0 _ rfl,za f.out.bp 0 _ rfl,za f.out.bp 1 _ rfl,za f.out.bp 2 _ rfl,za f.out.bp 3 _ rfl,za f.out.bp 4 _ rfl,za f.out.bp 5 _ rfl,za f.out.bp 6 _ rfl,za f.out.bp 7 _ rfl,za f.out.bp 8 _ rfl,za f.out.bp 9 _ rfl,za f.out.bp 10 _ rfl,za f.out.bp 11 _ rfl⟩) (fun hS=>?_)
 clear H K f Q r0 f0 r1 f1 r2 f2 r3 f3;simp only[sZ,sS];refine zX (by kernel_rfl) ?_ _
 clear hS;go_wp2;go_end0;exact⟨.inl ⟨rfl,J,b1,d1,b2,d2,b3,d3,name,price,ra,N,rc,T,L2,C2,A2,B2,D2,E2,b0.out,b4.out,a7.out,a9.out.1,a9.out.2,a8.out⟩,a0.out⟩
theorem zmk (G:Nat)(a:Array Value)(w:World)(Q:World->Prop)(R:Value->World->Prop)(eg:∀ args w,(callFunc G args).run Tryz.prog w=.ok (.enter G args) w)
  (h:Calls Tryz.prog G a (w.alloc (.cells #[.nilIface] 92)) fun e w'=>w'.heap[w.heap.size]?=some (.cells #[.nilIface] 92 (0,0))/\((e=.returned (.tuple #[])/\Q w')∨∃ u,e=.panicked [{ v:=.iface 96 u,recovered:=false }]/\R u w')) :
  Calls Tryz.prog 51 #[.func (.func G) #[] a] w fun e w'=>(e=.returned .nilIface/\∃ b,Q b/\w'=b.setCell ⟨w.heap.size,0,none⟩ .nilIface)∨∃ u,e=.returned (.iface 96 u)/\∃ b,R u b/\w'=b.setCell ⟨w.heap.size,0,none⟩ (.iface 96 u):=by
 have n:∀ (i:Fn) (first c:Array Value) (w:World),(Instr.makeFunc i first c).run Tryz.prog w=.ok (.func i first c) w:=fun _ _ _ _=>rfl
 go_enter_defers Tryz.func51,Tryz.ntmps51;go_wp2_with (go_at_fn G;refine h.mono ?_;rintro e b ⟨j,⟨rfl,l⟩|⟨u,rfl,m⟩⟩ <;> (have d:=za j 0 _ rfl;have k:=zg j 0))
 ·refine leaves_cons (f:=105) (args:=#[.pointer (some ⟨w.heap.size,0,none⟩)]) (by simp) (by simp[go_sem]) ?_
  refine(znz ⟨w.heap.size,0,none⟩ _).mono ?_;rintro e o g ⟨rfl,rfl,rfl⟩;simp[Leaves,settle,results,Tryz.results51,go_sem];exact⟨_,by rw[World.cell?_setCell_same _ _ Value.nilIface d],.inl ⟨rfl,b,l,rfl⟩⟩
 ·refine leaves_cons (f:=105) (args:=#[.pointer (some ⟨w.heap.size,0,none⟩)]) (by simp) (by simp[go_sem]) ?_
  refine(ziV ⟨w.heap.size,0,none⟩ .nilIface u [] _ d k).mono ?_;rintro e o g ⟨rfl,rfl,rfl⟩;simp[Leaves,settle,results,Tryz.results51,go_sem];exact⟨_,by rw[World.cell?_setCell_same _ _ (Value.iface 96 u) d],.inr ⟨u,rfl,b,m,rfl⟩⟩
end Go.Proofs.YtmdnjgihooflfaaGreatDoor

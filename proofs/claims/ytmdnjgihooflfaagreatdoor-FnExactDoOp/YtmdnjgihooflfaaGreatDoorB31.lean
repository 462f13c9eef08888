/-
  OWN TEXT: SpecDo, KitOq, PerfA, SpecFsh, PlainOu, PlainNi, PerfI.
-/
import Derived.Deep.DeepCutAuto
import Derived.Test.YtmdnjgihooflfaaGreatDoorB30
import Derived.Test.YtmdnjgihooflfaaGreatDoorB25
namespace Go.Proofs.YtmdnjgihooflfaaGreatDoor
open Go.RowKit
open Go.Value (int)
open Go.IntKind (i64)
open Tryz
set_option maxHeartbeats 64000000
set_option maxRecDepth 100000
theorem l7Do_any (g base N R k h f d:Nat)(c b a:Option Addr)(v:Wk)(x:Off)(L C A B D E:Nat->Value)(w:World)(o:w.heap[g]?=some (.cells #[(c,N,h),(b,N,f),(a,R,d)] 38 (0,0)))(n:zF w base (c,N,h) (b,N,f) (a,R,d) N N R x L C A B D E)(l:N<=1048576)(m:zW x.sa v.leg N=k)(j:k<N)(i:qm (x.sa k) (x.ld k))(hr:v.res<3)(s:v.goes=true->zfn (x.ld k) v.res v.who)(t:v.goes=false->In v.p.pe 0 20) :
  Calls prog 92 #[.pointer (some (g,0)),.agg #[v.leg,(v.res:Int),v.goes,v.who,v.p.pe,v.p.len,v.p.hei,v.p.cl,v.p.all,v.p.be]] w λe w'=>zfW g base N R k h f d c b a v x L C E w e w':=by
 obtain⟨leg,res,goes,who,p⟩:=v;have hr:res<3:=hr
 cases goes with
 | true =>
  have q:=s rfl;obtain rfl|rfl|rfl:res=0∨res=1∨res=2:=by omega
  ·obtain⟨r,h1,h2,h3⟩:=zcs i.stays_one q
   exact l7Do_a g _ N R k h f d c b a leg who p x L C A B D E w o n l m j i r h1 h2 h3
  ·obtain⟨r,h1,h2,h3⟩:=zcs i.rooms_one q
   exact l7Do_b g _ N R k h f d c b a leg who p x L C A B D E w o n l m j i r h1 h2 h3
  ·obtain⟨r,h1,h2,h3⟩:=zcs i.seats_one q
   exact l7Do_c g _ N R k h f d c b a leg who p x L C A B D E w o n l m j i r h1 h2 h3
 | false =>
  obtain rfl|rfl|rfl:res=0∨res=1∨res=2:=by omega
  ·exact l7Do_d g _ N R k h f d c b a leg who p x L C A B D E w o n l m j i
  ·obtain⟨pe,len,hei,cl,all,be⟩:=p
   cases all with
   | true=>exact l7Do_e g _ N R k h f d c b a leg who pe len hei cl be x L C A B D E w o n l m j i
   | false=>exact l7Do_f g _ N R k h f d c b a leg who pe len hei cl be x L C A B D E w o n l m j i
  ·exact l7Do_g g _ N R k h f d c b a leg who p x L C A B D E w o n l m j i (t rfl)
section
open Go.RowKit
variable{x:Off}{y:OpD}{m:Nat}{b a name price:Int}
theorem znX (h:ZT x.san x.bkn m x y 0)(f:zac y->In y.kind 4 8->y.name=(m:Int)+1):ZZ x y m:=by
 obtain⟨h1,h2,h3,h4⟩:=h;have a:zac y:=by
  by_cases c:zac y
  ·exact c
  ·have:=h1 c;omega
 have d:¬ _:=λc=>by have:=h2 a c;omega
 refine⟨a,d,λe=>?_⟩
 obtain⟨g,i,n3⟩:=h3 a d e;have b:m<x.bkn:=by
  by_cases c:x.bkn<=m
  ·have:=g c;omega
  ·omega
 exact⟨f a e,b,λc=>by have:=i b c;omega⟩
def zhG (x:Off)(b:Int)(y:OpD)(m:Nat)(c:Off)(a name price:Int):Prop :=
 (a≠0/\c=x/\name=0/\price=0/\ZT x.san x.bkn m x y a) ∨
 (ZZ x y m/\a≠0/\c=x/\name=0/\price=0/\∃ j M v k,zav x (qk x b y m) j M/\(qk x b y m)[j]?=some v/\zW x.sa v.leg x.san=k/\k<x.san/\qV (x.sa k) v (M k) a (M k)) ∨
 (ZZ x y m/\∃ M x3,zav x (qk x b y m) (qk x b y m).length M/\zfu { x with ld:=M } b y m x3 a name price/\((a≠0∨y.kind=1)->c=x)/\(¬ (a≠0∨y.kind=1)->c=x3))
def RowsBe (x:Off)(a:Int)(y:OpD)(m:Nat)(c:Int)(w':World)(d:Value):Prop :=
 (d=.slice none 0 0/\(y.kind=9->c≠0))∨∃ M b,ZZ x y m/\zav x (qk x a y m) (qk x a y m).length M/\zdA { x with ld:=M } y b w' d
def OpAns (x:Off)(a:Int)(y:OpD)(m base:Nat)(e:Ending)(w':World):Prop :=
 ∃ x2 a1 c1 a2 c2 a3 c3 code name price rv L C A B D E,e=.returned (.tuple #[.agg #[.slice a1 x2.san c1,.slice a2 x2.ldn c2,.slice a3 x2.bkn c3],.agg #[int i64 code,int i64 name,int i64 price,rv]]) /\
  zF w' base (.slice a1 x2.san c1) (.slice a2 x2.ldn c2) (.slice a3 x2.bkn c3) x2.san x2.ldn x2.bkn x2 L C A B D E/\zhG x a y m x2 code name price/\RowsBe x a y m code w' rv
theorem zkX:∀ (l:List Wk)(j:Nat)(v:Wk),l[j]?=some v->∀ r,r<10->(zgE l)[j*10+r]?=(wkC v)[r]?
 | [],j,v,h,_,_=>by simp at h
 | u :: l,0,v,h,r,hr=>by
  have e:=by simpa using h
  subst e
  show(_++zgE l)[_]?=_
  rw[List.getElem?_append_left (by show _<10;omega),Nat.zero_mul,Nat.zero_add]
 | u :: l,j+1,v,h,r,hr=>by
  have h2:=by simpa using h
  show(_++zgE l)[_]?=_
  rw[List.getElem?_append_right (by show 10<=_;omega)]
  have e:(j+1)*10+r - (wkC u).length=j*10+r:=by show _ - 10=_;omega
  rw[e];exact zkX l j v h2 r hr
theorem zfu.size {c:Off}(h:zfu x b y m c a name price):c.san=x.san/\c.ldn=x.ldn:=by
 rcases h with⟨_,rfl,_⟩|⟨_,rfl,_⟩|⟨_,_,rfl,_⟩|⟨_,_,rfl,_⟩|⟨_,_,rfl,_⟩ <;> exact⟨rfl,rfl⟩
theorem zfu.nine {c:Off}(h:zfu x b y m c a name price)(hc:a≠0∨y.kind=1):y.kind≠9:=by
 rcases h with⟨h1,_,h2,_⟩|⟨h1,_,h2,_⟩|⟨h1,_,_,h2,_⟩|⟨h1,_,_,h2,_⟩|⟨h1,_,_,h2,_⟩ <;> first|omega|(unfold In at h1;omega)
theorem zie {w Z:World}{a c base o p q:Nat}{v1 v2 v3 s t u u0 u1 u2 u3:Value}{L C A B D E:Nat->Value}(m:Below w.heap.size w Z)(j:zF Z base v1 v2 v3 o p q x L C A B D E)(g:Z.heap[a]?=some (.cells #[s,t,u] 38 (0,0)))(f:Z.heap[c]?=some (.cells #[u0,u1,u2,u3] 41 (0,0)))(h1:w.heap.size<=a)(h2:w.heap.size<=c)(i c1 c2 c3:Value){F:World}
  (r:F=((((((Z.setCell (a,0) v1).setCell (a,1) v2).setCell (a,2) v3).setCell (c,0) i).setCell (c,1) c1).setCell (c,2) c2).setCell (c,3) c3) :
  zF F base v1 v2 v3 o p q x L C A B D E/\F.heap[a]?=some (.cells #[v1,v2,v3] 38 (0,0))/\F.heap[c]?=some (.cells #[i,c1,c2,c3] 41 (0,0))/\Below w.heap.size w F/\zx Z F (λb=>b=a∨b=c):=by
 subst r;have h:a≠c:=λe=>by subst e;rw[g] at f;simp at f
 have k:=zkQ Z a v1 v2 v3;have d:=k.blk f (λe=>h e.symm)
 have l:=zaU (((Z.setCell (a,0) v1).setCell (a,1) v2).setCell (a,2) v3) c i c1 c2 c3;have n:=(k.mono (λb e=>.inl e)).trans (l.mono (T:=λb=>_∨_) (λb e=>.inr e))
 exact⟨(j.box k g (by decide)).box l d (by decide),l.blk (zeN g v1 v2 v3) h,zcJ d _ _ _ _,zx.below m m.size n (λb e=>by rcases e with e|e <;> omega),n⟩
theorem zeQ {b:Nat}{z a:World}{v:Value}{T:Nat->Prop}(h:zdA x y b z v)(i:zx z a T)(e:∀ g,T g->∃ cs t,z.heap[g]?=some (.cells cs t (0,0))/\203≠t):zdA x y b a v:=by
 refine⟨λh9=>?_,h.2⟩
 obtain⟨k,h1,h2,h3⟩:=h.1 h9;exact⟨k,h1,h2,i.own h3 (λg f s=>by obtain⟨cs,t,c,d⟩:=e g s;exact zQ h3 c d g f rfl)⟩
end
theorem zjj {y:OpD}(h:zac y):∃ k:Nat,y.kind=(k:Int)/\k<10/\1<=k:=⟨y.kind.toNat,by have:=h.1.1;omega,by have:=h.1.2;omega,by have:=h.1.1;omega⟩
theorem route_bad {x:Off}{y:OpD}{k:Nat}(f:Zk x)(h:zac y)(hk:y.kind=(k:Int)):Qk x.san x y↔(Z0 k≠0/\¬ (QJ x.san x.sa/\zad x.san x.sa y.lgn y.lg)):=by
 have e:=h.2.2.2.1;have hf:=zcm x.sa (y.lg 0) x.san;unfold Qk;unfold qi at e
 by_cases c:zJ y.kind
 ·have b:Z0 k≠0:=by unfold Z0;unfold zJ at c;rw[Jf (by omega)];decide
  constructor
  ·rintro(⟨_,h2⟩|⟨h2,_⟩)
   ·exact⟨b,λq=>h2 q.2⟩
   ·unfold zJ at c;omega
  ·rintro⟨_,h2⟩;exact .inl ⟨c,λq=>h2 ⟨f.1,q⟩⟩
 ·rw[Je c] at e
  by_cases c9:y.kind=9
  ·rw[Jf c9] at e
   have b:Z0 k≠0:=by unfold Z0;rw[Je (by omega),Jf (by omega)];decide
   have a:zad x.san x.sa y.lgn y.lg↔zW x.sa (y.lg 0) x.san<x.san:=by
    unfold zad zkh;rw[e];exact⟨λq=>(q.2.2 0 (by decide)).1,λq=>⟨by decide,by decide,λi hi=>by
     obtain rfl:i=0:=by omega
     exact⟨q,λz=>absurd z (by decide)⟩⟩⟩
   constructor
   ·rintro(⟨q,_⟩|⟨_,q⟩)
    ·exact absurd q c
    ·exact⟨b,λz=>by have:=a.1 z.2;omega⟩
   ·rintro⟨_,q⟩
    refine .inr ⟨c9,?_⟩
    by_cases d:zW x.sa (y.lg 0) x.san<x.san
    ·exact absurd ⟨f.1,a.2 d⟩ q
    ·omega
  ·have b:Z0 k=0:=by unfold Z0;unfold zJ at c;rw[Je (by omega),Je (by omega)]
   constructor
   ·rintro(⟨q,_⟩|⟨q,_⟩)
    ·exact absurd q c
    ·exact absurd q c9
   ·rintro⟨q,_⟩;exact absurd b q
theorem znY (b:ql)(y:OpD):zeo y.kind b y.now↔¬ zbG b y:=by
 unfold zbG zeo zez
 by_cases k4:y.kind=4
 ·rw[Jf k4];omega
 ·rw[Je k4]
  by_cases k8:y.kind=8
  ·rw[Jf k8];omega
  ·rw[Je k8];omega
theorem asked_any (x:Off)(y:OpD)(g a:Option Addr)(c1 b m:Nat)(pe:Nat->Addr)(w:World)(r:Zk x)(o:Off.Short x 1048576)(j:Zm w)(l:qY w pe)(d:OpD.Is w [y.kind,y.own,y.name,(a,y.lgn,b),y.pe,y.len,y.hei,y.cl,y.all,y.be,y.unt,y.now] y)(ho:y.own.size<=1048576)(p:y.lgn<=1048576)(h:zT w a y.lgn y.lg)(i:qB w g x.san x.sa) :
  Calls prog 106 #[(g,x.san,c1),.agg (y,a,b)] w λe w'=>((e=.returned (.tuple #[])/\zac y/\¬ Qk x.san x y)∨(∃ c:Nat,1<=c/\c<=8/\e=zmK pe c/\ZT x.san x.bkn m x y (c:Int)))/\Below w.heap.size w w':=by
 by_cases hok:zac y
 ·obtain⟨k,n,f,_⟩:=zjj hok
  have hr:=route_bad r hok n
  by_cases h0:Z0 k=0
  ·exact(zfV y a b g _ c1 k w d (by omega) j pe l hok n f h0).mono λ_ _ ⟨e,hb⟩=>⟨.inl ⟨e,hok,λq=>(hr.1 q).1 h0⟩,hb⟩
  ·by_cases hfit:QJ x.san x.sa/\zad x.san x.sa y.lgn y.lg
   ·exact(zhj y a b g _ c1 _ k w d (by omega) j pe l hok n f h0 o.1.1 p o.1.2 i h hfit).mono λ_ _ ⟨e,hb⟩=>⟨.inl ⟨e,hok,λq=>(hr.1 q).2 hfit⟩,hb⟩
   ·exact(zfU y a b g _ c1 _ k w d (by omega) j pe l hok n f h0 o.1.1 p o.1.2 i h hfit).mono λ_ _ ⟨e,hb⟩=>⟨.inr ⟨2,by decide,by decide,e,λq=>absurd hok q,λ_ _=>rfl,λ_ q=>absurd (hr.2 ⟨h0,hfit⟩) q,λ_ q=>absurd (hr.2 ⟨h0,hfit⟩) q⟩,hb⟩
 ·exact(zhi y a b g _ c1 w d (by omega) j pe l hok).mono λ_ _ ⟨e,hb⟩=>⟨.inr ⟨1,by decide,by decide,e,λ_=>rfl,λq=>absurd q hok,λq=>absurd q hok,λq=>absurd q hok⟩,hb⟩
theorem named_any (x:Off)(y:OpD)(h b:Option Addr)(c3 d m:Nat)(pe:Nat->Addr)(w:World)(s:x.bkn<=30)(n:Zm w)(r:qY w pe)(a:zac y)(o:¬ Qk x.san x y)(u:zac y->In y.kind 4 8->y.name=(m:Int)+1)(j:qO w h x.bkn x.bk) :
  Calls prog 107 #[(h,x.bkn,c3),.agg (y,b,d)] w λe w'=>((e=.returned (.tuple #[])/\ZZ x y m)∨(∃ c:Nat,1<=c/\c<=8/\e=zmK pe c/\ZT x.san x.bkn m x y (c:Int)))/\Below w.heap.size w w':=by
 obtain⟨k,p,f,t⟩:=zjj a
 by_cases hn:In y.kind 4 8
 ·have i:zaS k=true:=by unfold zaS;unfold In at hn;exact Jd (by omega)
  have g:=u a hn
  by_cases hlt:m<x.bkn
  ·have l:=znY (x.bk m) y
   by_cases hb:zbG (x.bk m) y
   ·exact(zhF y b d h _ c3 k w n p f i pe r _ j (by omega) m g hlt (λq=>l.1 q hb)).mono λ_ _ ⟨e,hbl⟩=>⟨.inr ⟨4,by decide,by decide,e,λq=>absurd a q,λ_ q=>absurd q o,λ_ _ _=>⟨λq=>by omega,λ_ _=>rfl,λ_ q=>absurd hb q⟩,λ_ _ q=>absurd hn q⟩,hbl⟩
   ·exact(zja y b d h _ c3 k w n p f i pe r _ j (by omega) m g hlt (l.2 hb)).mono λ_ _ ⟨e,hbl⟩=>⟨.inl ⟨e,a,o,λ_=>⟨g,hlt,hb⟩⟩,hbl⟩
  ·exact(zhE y b d h _ c3 k w n p f i pe r (by omega)).mono λ_ _ ⟨e,hbl⟩=>⟨.inr ⟨3,by decide,by decide,e,λq=>absurd a q,λ_ q=>absurd q o,λ_ _ _=>⟨λ_=>rfl,λq=>absurd q hlt,λq=>absurd q hlt⟩,λ_ _ q=>absurd hn q⟩,hbl⟩
 ·have i:zaS k=false:=by unfold zaS;unfold In at hn;exact Jc (by omega)
  exact(zhg y b d h _ c3 k w n p f i).mono λ_ _ ⟨e,hbl⟩=>⟨.inl ⟨e,a,o,λq=>absurd q hn⟩,hbl⟩
theorem ZZ.price {x:Off}{y:OpD}{m:Nat}(h:ZZ x y m)(a:zJ y.kind):QU ⟨y.pe,y.len,y.hei,y.cl,y.all,y.be⟩ y.lgn:=⟨h.party a,by have:=(h.legs a).1;have:=(h.legs a).2.1;unfold In;omega⟩
def SetAns (x:Off)(b c:Option Addr)(c1 c2:Nat)(L C A B D:Nat->Value)(a:Int)(y:OpD)(m base h:Nat)(e:Ending)(w':World):Prop :=
 ∃ (z:Off) (d:Option Addr) (f:Nat) (name price:Int) (g:Value) (E:Nat->Value),e=.returned (.tuple #[.agg #[(b,x.san,c1),(c,x.ldn,c2),(d,z.bkn,f)],.agg #[(),name,price,g]]) /\
  zF w' base (b,x.san,c1) (c,x.ldn,c2) (d,z.bkn,f) x.san x.ldn z.bkn z L C A B D E/\zfu x a y m z 0 name price/\zdA x y h w' g
theorem zif (x:Off)(I t s:Option Addr)(c1 c2 c3 base:Nat)(L C A B D E:Nat->Value)(j:Int)(y:OpD)(f:Option Addr)(n m:Nat)(w:World)(hT:QJ x.san x.sa)(M:x.bkn<=30)(W:x.ldn=x.san)(S:∀ i,i<x.bkn->zad x.san x.sa (x.bk i).lgn (x.bk i).lg)(d:ZZ x y m)(o:y.kind=2∨y.kind=3->x.bkn<30)
  (J:∀ V,Below base w V->Zq V/\Zu V) (G:zT w f y.lgn y.lg) (h9:y.kind=9->Off.Short x 1048576/\∀ k,k<x.san->qm (x.sa k) (x.ld k)) (K:base<=w.heap.size) (a:zF w base (I,x.san,c1) (t,x.ldn,c2) (s,x.bkn,c3) x.san x.ldn x.bkn x L C A B D E) :
  Calls prog 111 #[.agg #[(I,x.san,c1),(t,x.ldn,c2),(s,x.bkn,c3)],j,.agg (y,f,n)] w λe w'=>SetAns x I t c1 c2 L C A B D j y m base w.heap.size e w'/\zx w w' (λb=>(Value.slice s x.bkn c3).ownBlock=some b):=by
 have N:=d.1.1;unfold In at N;have p:=J w bZ
 by_cases k1:y.kind=1
 ·refine(settle_1 x I t s c1 c2 c3 j y f n w k1 p.1 p.2 (d.price (.inl k1))).mono ?_
  rintro e w' ⟨rfl,r⟩;exact⟨⟨x,s,c3,_,_,_,E,rfl,a.below r,.inl ⟨k1,rfl,rfl,rfl,rfl⟩,λq=>by omega,λ_=>rfl⟩,zx.of_below r⟩
 by_cases k9:y.kind=9
 ·obtain⟨hs,a0⟩:=h9 k9
  have a5:=by have:=d.1.2.2.2.1;unfold qi at this;rw[Je (by unfold zJ;omega),Jf k9] at this;exact this
  obtain⟨k,U⟩:∃ k,zW x.sa (y.lg 0) x.san=k:=⟨_,rfl⟩;have l:=by
   have:=zcm x.sa (y.lg 0) x.san
   by_cases c:k<x.san
   ·exact c
   ·exact absurd (.inr ⟨k9,by omega⟩) d.2.1
  have T:(x.sa k).id=y.lg 0:=by rw[← U];exact zcn _ _ _ (by omega)
  refine(settle_9 x I t s c1 c2 c3 k j y f n w k9 hs a.sa.at a.ld.at a.bk.at M W (by omega) G U l (a0 k l)).mono ?_
  rintro e w' ⟨⟨v,rfl,hr⟩,r⟩;rw[T] at hr;exact⟨⟨x,s,c3,_,_,v,E,rfl,a.below r,.inr (.inl ⟨k9,rfl,rfl,rfl,rfl⟩),λ_=>⟨k,U,l,hr⟩,λq=>absurd k9 q⟩,zx.of_below r⟩
 by_cases k23:y.kind=2∨y.kind=3
 ·have hu:y.kind=3->y.unt=0:=λh3=>by have:=d.1.2.2.2.2.2.1;unfold Qm at this;omega
  have F:zJ y.kind:=by unfold zJ;omega
  obtain⟨st,a4⟩:∃ st:Int,(y.kind=2/\st=1)∨(y.kind=3/\st=2):=by
   rcases k23 with h|h
   ·exact⟨1,.inl ⟨h,rfl⟩⟩
   ·exact⟨2,.inr ⟨h,rfl⟩⟩
  refine(znM x I t s c1 c2 c3 _ L C A B D E j st y f n w a4 p.1 p.2 (d.price F) G hu (o k23) K a).mono ?_;rintro e w' ⟨⟨g,R,Q,rfl,Z⟩,r⟩;exact⟨⟨_,g,R,_,_,_,Q,rfl,Z,.inr (.inr (.inr (.inl ⟨k23,o k23,rfl,rfl,rfl,rfl⟩))),λq=>by omega,λ_=>rfl⟩,r⟩
 ·have Y:In y.kind 4 8:=by unfold In;omega
  obtain⟨O,X,_⟩:=d.2.2 Y;have u:=S m X;obtain⟨k0,z⟩:∃ k,zW x.sa ((x.bk m).lg 0) x.san=k:=⟨_,rfl⟩;have l:k0<x.san:=by rw[← z];exact(u.2.2 0 u.1).1
  obtain⟨sb,e1,_,_⟩:=qh a.sa.row (by omega)
  obtain⟨gb,e3,_,_⟩:=qh a.bk.row (by omega)
  subst e1;subst e3;have H:=(hT.2 k0 l).1;have P:y.kind=6->In y.now 0 1000000:=λ_=>by have:=d.1.2.2.2.2.2.2;unfold zbW In at this;unfold In;omega
  refine(zkR x t sb gb c1 c2 c3 _ m k0 L C A B D E j y f n w Y O X M (by have:=hT.1;omega) u.1 z l ⟨⟨H.2.2.2.2.1,by have:=H.2.2.2.2.2.1;have:=H.2.2.2.2.2.2.1;omega⟩,P⟩ J (λh5=>⟨d.price (.inr (.inr (.inr h5))),G⟩) K a).mono ?_
  rintro e w' ⟨⟨Q,rfl,Z⟩,r⟩;refine⟨⟨{ x with bk:=zah _ m _ },_,c3,_,_,_,Q,rfl,Z,.inr (.inr (.inr (.inr ⟨Y,X,rfl,rfl,O.symm,?_⟩))),λq=>absurd q k9,λ_=>rfl⟩,r.mono (λb e=>by rw[show _ from e];rfl)⟩
  unfold zne zbR;rw[z]
def zbn (n:Nat)(S:Nat->ql)(a:Int):Prop:=In a 1 9999/\∀ i,i<n->(S i).who≠a
theorem zmh (q o k:Option Addr)(N M R u s r:Nat)(x:Off)(f:Int)(w:World)(hR:R<=1048576)(v:qO w k R x.bk) :
  Calls prog 43 #[.agg #[(q,N,u),(o,M,s),(k,R,r)],f] w λe w'=>qX (zbn R x.bk f) e/\Below w.heap.size w w':=by
 have A:=hI v;clear v;have D:Below _ w (w.alloc (.cells #[(q,N,u),(o,M,s),(k,R,r)] 38)):=zk bZ _;go_enter func43,ntmps43;go_wp2;go_loopw [6,10] (λ_ i wr=>∃ t,t<=R/\i=int i64 t/\Hid (∀ j,j<t->(x.bk j).who≠f)/\Below w.heap.size w wr) (λ_ i _=>R - (intOf i).toNat)
 case atStart=>exact⟨0,Jq _,rfl,(λj O=>by omega),D⟩
 case round =>
  obtain⟨t,ht,rfl,E,a⟩:=hrel
  by_cases hlt:t<R
  ·obtain⟨Cc,z,y⟩:=A
   obtain⟨gb,off,rfl,g⟩:=z t hlt;obtain⟨C,B,l,L,P⟩:=y t hlt;obtain⟨b,m⟩:∃ b,b=x.bk t:=⟨_,rfl⟩;rw[← m] at l;have n:=hI m.symm;rw[l] at g;have d:=Ja w _ (g 0 (by decide))
   have i0:(0:Int)<=(t:Int):=by omega
   have i1:(t:Int)<(R:Int):=by omega
   have c0:wr.cell? _=some (.int _ _):=(a.cell (p:=⟨gb,off+_,_⟩) d).trans (g 0 (by decide))
   have c1:wr.cell? _=some (.int _ _):=(a.cell (p:=⟨gb,_+1,_⟩) d).trans (g 1 (by decide))
   have c2:wr.cell? _=some (.string _):=(a.cell (p:=⟨gb,_+2,_⟩) d).trans (g 2 (by decide))
   have c3:wr.cell? _=some (.slice C _ B):=(a.cell (p:=⟨gb,_+3,_⟩) d).trans (g 3 (by decide))
   have c4:wr.cell? _=some (.int _ _):=(a.cell (p:=⟨gb,_+4,_⟩) d).trans (g 4 (by decide))
   have c5:wr.cell? _=some (.int _ _):=(a.cell (p:=⟨gb,_+5,_⟩) d).trans (g 5 (by decide))
   have c6:wr.cell? _=some (.int _ _):=(a.cell (p:=⟨gb,_+6,_⟩) d).trans (g 6 (by decide))
   have c7:wr.cell? _=some (.int _ _):=(a.cell (p:=⟨gb,_+7,_⟩) d).trans (g 7 (by decide))
   have c8:wr.cell? _=some (.bool _):=(a.cell (p:=⟨gb,_+8,_⟩) d).trans (g 8 (by decide))
   have c9:wr.cell? _=some (.int _ _):=(a.cell (p:=⟨gb,_+9,_⟩) d).trans (g 9 (by decide))
   have H:wr.cell? _=some (.int _ _):=(a.cell (p:=⟨gb,_+10,_⟩) d).trans (g 10 (by decide))
   have I:wr.cell? _=some (.int _ _):=(a.cell (p:=⟨gb,_+11,_⟩) d).trans (g 11 (by decide))
   have J:wr.cell? _=some (.int _ _):=(a.cell (p:=⟨gb,_+12,_⟩) d).trans (g 12 (by decide))
   clear g l L P z y m
   by_cases he:b.who=f
   ·have K:(b.who == f)=true:=by simpa using he
    have G:Hid (¬ zbn R x.bk f):=λh=>h.2 t hlt (by rw[n.out];exact he)
    clear he;go_wp2;go_ret;exact⟨zl G,zk a _⟩
   ·have K:(b.who == f)=false:=by simpa using he
    have F:Hid (∀ j,j<t+1->(x.bk j).who≠f):=λj O=>by
     by_cases c:j=t
     ·rw[c,n.out];exact he
     ·exact E j (by omega)
    clear he;go_wp2;go_roundw
    case rel=>exact⟨_,by omega,by go_num,F,zk a _⟩
    case measure=>simp[intOf];omega
  ·obtain rfl:t=R:=by omega
   go_wp2_with (first|(go_at_call 89;refine sC (Qz _ _) ?_))
   go_ret;refine⟨⟨_,rfl,?_⟩,a⟩;rw[decide_eq_true_eq];exact⟨λh=>⟨h,E⟩,λh=>h.1⟩
section
open Go.RowKit
variable{c c' a b n p p':Int}{x:Off}{j m N:Nat}{y:OpD}
theorem zhm {F:Nat->Int}{n:Nat}{x:Int}(h:∀ i,i<n->¬ Has F i (F i)){r a:Nat}(hr:r<n)(e:F r=x)(b:a<n)(d:F a=x):r=a:=by
 rcases Nat.lt_trichotomy r a with c|c|c
 ·exact absurd ⟨r,c,by rw[e,d]⟩ (h a b)
 ·exact c
 ·exact absurd ⟨a,c,by rw[e,d]⟩ (h r hr)
theorem qV.one {s:Zj}{w:Wk}{x y f:zY}(h:qV s w x c y)(b:qV s w x c' f)(d:qm s x):c=c'/\y=f:=by
 cases h with
 | noStay r e g h q =>
  cases b with
  | noStay r' e' g' b q' =>
   obtain rfl:=zhm d.stays_one h q b q';exact⟨rfl,rfl⟩
  | _=>first | (exfalso;omega) | (exfalso;simp_all)
 | noRoom r e g h q =>
  cases b with
  | noRoom r' e' g' b q' =>
   obtain rfl:=zhm d.rooms_one h q b q';exact⟨rfl,rfl⟩
  | _=>first | (exfalso;omega) | (exfalso;simp_all)
 | noSeat r e g h q =>
  cases b with
  | noSeat r' e' g' b q' =>
   obtain rfl:=zhm d.seats_one h q b q';exact⟨rfl,rfl⟩
  | _=>first | (exfalso;omega) | (exfalso;simp_all)
 | addStay k e g h =>
  cases b with
  | addStay k' e' g' b =>
   have q:=zcP h b;obtain rfl:k=k':=by omega
   exact⟨rfl,rfl⟩
  | deck e' g' b=>have q:=zcP h b;exfalso;omega
  | _=>first | (exfalso;omega) | (exfalso;simp_all)
 | deck e g h =>
  cases b with
  | addStay k' e' g' b=>have q:=zcP h b;exfalso;omega
  | deck=>exact⟨rfl,rfl⟩
  | _=>first | (exfalso;omega) | (exfalso;simp_all)
 | addWhole k e g a h =>
  cases b with
  | addWhole k' e' g' a' b =>
   have q:=zcO h b;obtain rfl:k=k':=by omega
   exact⟨rfl,rfl⟩
  | ZY e' g' a' b=>have q:=zcO h b;exfalso;omega
  | _=>first | (exfalso;omega) | (exfalso;simp_all)
 | ZY e g a h =>
  cases b with
  | addWhole k' e' g' a' b=>have q:=zcO h b;exfalso;omega
  | ZY=>exact⟨rfl,rfl⟩
  | _=>first | (exfalso;omega) | (exfalso;simp_all)
 | addBerth k e g a h =>
  cases b with
  | addBerth k' e' g' a' b =>
   have q:=zcO h b;obtain rfl:k=k':=by omega
   exact⟨rfl,rfl⟩
  | berth e' g' a' b=>have q:=zcO h b;exfalso;omega
  | _=>first | (exfalso;omega) | (exfalso;simp_all)
 | berth e g a h =>
  cases b with
  | addBerth k' e' g' a' b=>have q:=zcO h b;exfalso;omega
  | berth=>exact⟨rfl,rfl⟩
  | _=>first | (exfalso;omega) | (exfalso;simp_all)
 | addSeat e g hn hs =>
  cases b with
  | addSeat=>exact⟨rfl,rfl⟩
  | seats e' g' b=>exfalso;omega
  | _=>first | (exfalso;omega) | (exfalso;simp_all)
 | seats e g h =>
  cases b with
  | addSeat e' g' hn hs=>exfalso;omega
  | seats=>exact⟨rfl,rfl⟩
  | _=>first | (exfalso;omega) | (exfalso;simp_all)
theorem zjA.last {l:List Wk}{L M:Nat->zY}(h:zjA x l L M):∀ {a:List Wk}{v:Wk},l=a++[v]->∃ M1 k z,zjA x a L M1/\zW x.sa v.leg x.san=k/\k<x.san/\qV (x.sa k) v (M1 k) 0 z/\M=zht M1 k z:=by
 cases h with
 | nil=>intro a v e;simp at e
 | snoc l1 _ M1 v1 k z h hk hl hw =>
  intro a v e;obtain⟨b,c⟩:=List.append_inj' e rfl;have d:=by simpa using c
  subst b d;exact⟨M1,k,z,h,hk,hl,hw,rfl⟩
theorem zjA.none {l:List Wk}{L M:Nat->zY}(h:zjA x l L M)(e:l=[]):M=L:=by
 cases h with
 | nil=>rfl
 | snoc=>simp at e
theorem zeR {l:List Wk}{v:Wk}(h:l[j]?=some v):l.take (j+1)=l.take j++[v]:=by
 rw[List.take_add_one,h];rfl
theorem zeS {l:List Wk}(n:Zk x)(o:l.Pairwise zdu)(f:∀ v ∈ l,Apt x x.ld v/\WkOk x v):∀ j M M',j<=l.length->zjA x (l.take j) x.ld M->zjA x (l.take j) x.ld M'->M=M'/\zav x l j M
 | 0,M,M',_,h,h'=>by
  obtain rfl:=h.none (List.take_zero);obtain rfl:=h'.none (List.take_zero);exact⟨rfl,zav.start n (λv a=>(f v a).1)⟩
 | j+1,M,M',hj,h,h'=>by
  obtain⟨v,a⟩:∃ v,l[j]?=_:=⟨_,List.getElem?_eq_getElem (by omega)⟩
  obtain⟨q,k,z,r,g,i,m,rfl⟩:=h.last (zeR a);obtain⟨b,k',z',c,d,s,e,rfl⟩:=h'.last (zeR a);obtain⟨rfl,p⟩:=zeS n o f j q b (by omega) r c
  obtain rfl:=g.symm.trans d;obtain⟨_,rfl⟩:=m.one e (p.good k i);exact⟨rfl,p.next o a g i (f v (List.mem_of_getElem? a)).2 m⟩
theorem zjA.back {l:List Wk}{L:Nat->zY}(j:Nat):∀ d M,j+d<=l.length->zjA x (l.take (j+d)) L M->∃ a,zjA x (l.take j) L a
 | 0,M,_,h=>⟨M,h⟩
 | d+1,M,hj,h=>by
  obtain⟨v,c⟩:∃ v,l[j+d]?=_:=⟨_,List.getElem?_eq_getElem (by omega)⟩
  obtain⟨a,k,z,b,_⟩:=zjA.last h (zeR c);exact zjA.back j d a (by omega) b
theorem work_done {l:List Wk}(o:Zk x)(q:l.Pairwise zdu)(p:∀ v ∈ l,Apt x x.ld v/\WkOk x v){b k:Nat}{M e:Nat->zY}{v:Wk}(s:zav x l j M)(c:zav x l b e)(hj:j<b)(hl:b<=l.length)(t:l[j]?=some v)(r:zW x.sa v.leg x.san=k)(u:qV (x.sa k) v (M k) a (M k)):a=0:=by
 obtain⟨M1,g⟩:=zjA.back (l:=l) (j+1) (b - (j+1)) e (by omega) (by rw[show j+1+(b - (j+1))=b by omega];exact c.done)
 obtain⟨f,k2,z,h,i,m,n,_⟩:=g.last (zeR t);obtain⟨rfl,d⟩:=zeS o q p j M f (by omega) s.done h
 obtain rfl:=r.symm.trans i;exact(u.one n (d.good k m)).1
theorem zcV.one {R:Nat}(h:zcV R m x y c)(a:zcV R m x y c'):c=c':=by
 by_cases q:R<=m
 ·rw[h.1 q,a.1 q]
 ·by_cases p:zbG (x.bk m) y
  ·rw[h.2.1 (by omega) p,a.2.1 (by omega) p]
  ·rw[h.2.2 (by omega) p,a.2.2 (by omega) p]
theorem ZT.one {R:Nat}(h:ZT N R m x y c)(a:ZT N R m x y c'):c=c':=by
 by_cases q:zac y
 ·by_cases p:Qk N x y
  ·rw[h.2.1 q p,a.2.1 q p]
  ·by_cases r:In y.kind 4 8
   ·exact(h.2.2.1 q p r).one (a.2.2.1 q p r)
   ·rw[h.2.2.2 q p r,a.2.2.2 q p r]
 ·rw[h.1 q,a.1 q]
theorem ZZ.zero (h:ZZ x y m)(a:ZT x.san x.bkn m x y c):c=0:=by
 by_cases r:In y.kind 4 8
 ·obtain⟨_,b,d⟩:=h.2.2 r
  exact(a.2.2.1 h.1 h.2.1 r).2.2 b d
 ·exact a.2.2.2 h.1 h.2.1 r
theorem zfu.one {a e:Off}{f:Int}(h:zfu x b y m a c n p)(i:zfu x b y m e c' f p'):a=e/\c=c'/\n=f/\p=p':=by
 rcases h with⟨k,rfl,rfl,rfl,rfl⟩|⟨k,rfl,rfl,rfl,rfl⟩|⟨k,q,rfl,rfl,rfl,rfl⟩|⟨k,q,rfl,rfl,rfl,rfl⟩|⟨k,q,rfl,rfl,rfl,rfl⟩ <;>
  rcases i with⟨d,rfl,rfl,rfl,rfl⟩|⟨d,rfl,rfl,rfl,rfl⟩|⟨d,g,rfl,rfl,rfl,rfl⟩|⟨d,g,rfl,rfl,rfl,rfl⟩|⟨d,g,rfl,rfl,rfl,rfl⟩ <;>
  first|exact⟨rfl,rfl,rfl,rfl⟩|(exfalso;(try unfold In at k);(try unfold In at d);omega)
theorem zhG.one {l:Int}{a K:Off}{N:Int}(D:Zk x)(L:zbn x.bkn x.bk l)(h:zhG x l y m a c n p)(Q:zhG x l y m K c' N p'):a=K/\c=c'/\n=N/\p=p':=by
 have w:ZZ x y m->_:=λd=>zeK D d L.1 L.2
 have i:∀ {c c':Int} {j J M z v k},_->c≠0->zav x _ j M->_->_->qV _ v _ c (M k)->zav x _ J z->_->¬ _:=λd R g t B C b I T=>R (work_done D (w d).1 (w d).2 g b T I t B C)
 rcases h with⟨A,rfl,rfl,rfl,G⟩|⟨d,A,rfl,rfl,rfl,j,M,v,k,g,t,B,I,C⟩|⟨d,M,x3,g,S,O,P⟩ <;>
  rcases Q with⟨f,rfl,rfl,rfl,o⟩|⟨s,f,rfl,rfl,rfl,J,z,v',k',b,e,r,U,u⟩|⟨s,z,V,b,H,E,F⟩
 ·exact⟨rfl,G.one o,rfl,rfl⟩
 ·exact absurd (s.zero G) A
 ·exact absurd (s.zero G) A
 ·exact absurd (d.zero o) f
 ·have q:=(List.getElem?_eq_some_iff.1 t).1
  have q':=(List.getElem?_eq_some_iff.1 e).1;have n1:=i (c':=c) d A g t B C b (by omega)
  have n2:=i (c':=c) d f b e r u g (by omega)
  obtain rfl:j=J:=by omega
  obtain rfl:=by rw[t] at e;exact Option.some.inj e
  obtain rfl:=B.symm.trans r;obtain⟨rfl,_⟩:=zeS D (w d).1 (w d).2 j M z (by omega) g.done b.done
  exact⟨rfl,(C.one u (g.good k I)).1,rfl,rfl⟩
 ·exact absurd (List.getElem?_eq_some_iff.1 t).1 (i (c':=c) d A g t B C b (Jr _))
 ·exact absurd (d.zero o) f
 ·exact absurd (List.getElem?_eq_some_iff.1 e).1 (i (c':=c) d f b e r u g (Jr _))
 ·obtain⟨rfl,_⟩:=zeS D (w d).1 (w d).2 _ M z (Jr _) g.done b.done
  obtain⟨rfl,rfl,rfl,rfl⟩:=S.one H;refine⟨?_,rfl,rfl,rfl⟩
  by_cases q:c≠0∨y.kind=1
  ·rw[O q,E q]
  ·rw[P q,F q]
end
section
open Go.RowKit
variable{x:Off}{y:OpD}{m N j:Nat}{a b name price c c' n p p':Int}
theorem zig (h:y.kind=9):qk x a y m=[]:=by
 unfold qk;rw[Je (by unfold Qt;omega),Je (by unfold zJ;omega)]
 rfl
theorem zav.nine {M:Nat->zY}(h:zav x (qk x a y m) (qk x a y m).length M)(h9:y.kind=9):M=x.ld:=by
 have b:∀ l K,zjA x l x.ld K->l=[]->K=x.ld:=λl K h e=>by
  cases h with
  | nil=>rfl
  | _=>simp at e
 exact b _ _ h.done (by rw[zig h9];rfl)
theorem zkY {l:Off}(h:zhG x b y m l a name price)(i:ZZ x y m)(h9:y.kind=9):a=0:=by
 rcases h with⟨d,_,_,_,f⟩|⟨_,d,_,_,_,j,M,v,k,_,c,_⟩|⟨_,M,x3,_,g,_⟩
 ·exact i.zero f
 ·rw[zig h9] at c;simp at c
 ·rcases g with⟨k,_,e,_⟩|⟨k,_,e,_⟩|⟨k,_⟩|⟨k,_⟩|⟨k,_⟩
  ·exact e
  ·exact e
  all_goals (exfalso;(try unfold In at k);omega)
def RowsN (x:Off)(y:OpD)(m:Nat)(a:Int)(N:Nat)(T:Nat->zcB):Prop :=
 (N=0/\(y.kind=9->a≠0)) ∨
 (y.kind=9/\ZZ x y m/\N=(Qn (x.ld (zW x.sa (y.lg 0) x.san)) x.bk (y.lg 0) x.bkn).length/\T=zeM (Qn (x.ld (zW x.sa (y.lg 0) x.san)) x.bk (y.lg 0) x.bkn))
def znZ (x:Off):Off:={ x with san:=0,ldn:=0,bkn:=0 }
def Res (x:Off)(b:Int)(y:OpD)(m:Nat)(c:Off)(a name price:Int)(N:Nat)(T:Nat->zcB)(ok:Bool):Prop :=
 ((Zk x/\zbn x.bkn x.bk b)/\ok=true/\zhG x b y m c a name price/\RowsN x y m a N T) ∨
 (¬ (Zk x/\zbn x.bkn x.bk b)/\ok=false/\c=znZ x/\a=0/\name=0/\price=0/\N=0)
theorem Res.one {a s:Off}{u:Int}{T l:Nat->zcB}{o v:Bool}(h:Res x b y m a c n p N T o)(A:Res x b y m s c' u p' j l v):a=s/\c=c'/\n=u/\p=p'/\N=j/\(N=0∨T=l)/\o=v:=by
 rcases h with⟨⟨w,z⟩,rfl,h1,h2⟩|⟨q,rfl,rfl,rfl,rfl,rfl,rfl⟩ <;> rcases A with⟨⟨f,g⟩,rfl,d,e⟩|⟨B,rfl,rfl,rfl,rfl,rfl,rfl⟩
 ·obtain⟨rfl,rfl,rfl,rfl⟩:=h1.one w z d
  refine⟨rfl,rfl,rfl,rfl,?_⟩
  rcases h2 with⟨rfl,r⟩|⟨k,r,rfl,rfl⟩ <;> rcases e with⟨rfl,i⟩|⟨t,i,rfl,rfl⟩
  ·exact⟨rfl,.inl rfl,rfl⟩
  ·exact absurd (zkY h1 i t) (r t)
  ·exact absurd (zkY h1 r k) (i k)
  ·exact⟨rfl,.inr rfl,rfl⟩
 ·exact absurd ⟨w,z⟩ B
 ·exact absurd ⟨f,g⟩ q
 ·exact⟨rfl,rfl,rfl,rfl,rfl,.inl rfl,rfl⟩
def zmO (base c:Nat)(a:Off)(b name price:Int)(N:Nat)(T:Nat->zcB)(ok:Bool)(e:Ending)(w':World):Prop :=
 ∃ a1 c1 a2 c2 a3 c3 ar cr L C A B D E,e=.returned (.tuple #[.agg #[(a1,a.san,c1),(a2,a.ldn,c2),(a3,a.bkn,c3)],.agg #[b,name,price,(ar,N,cr)],ok]) /\
  zF w' base (.slice a1 a.san c1) (.slice a2 a.ldn c2) (.slice a3 a.bkn c3) a.san a.ldn a.bkn a L C A B D E/\w'.ownsRow c 203 5 (.slice ar N cr) N (qW T N)
theorem zoa (T a:Nat->zcB)(h:N=0∨T=a):qW T N=qW a N:=by
 rcases h with rfl|rfl <;> rfl
theorem zbS (w:World)(base e size:Nat):w.ownsRow base e size True 0 []:=⟨by simp,.inl ⟨rfl,rfl⟩⟩
theorem zmi (w:World)(base:Nat)(x:Off):zF w base True True True 0 0 0 x (λ_=>.nilFunc) (λ_=>.nilFunc) (λ_=>.nilFunc) (λ_=>.nilFunc) (λ_=>.nilFunc) (λ_=>.nilFunc) :=
 ⟨⟨zbS w base _ _,λi h=>absurd h (by omega),λi h=>absurd h (by omega),λi j _ h=>absurd h (by omega)⟩,
  ⟨zbS w base _ _,λi h=>absurd h (by omega),λi h=>absurd h (by omega),λi h=>absurd h (by omega),⟨λi j h=>absurd h (by omega),λi j h=>absurd h (by omega),λi j h=>absurd h (by omega)⟩⟩,
  ⟨zbS w base _ _,λi h=>absurd h (by omega),λi j _ h=>absurd h (by omega)⟩⟩
theorem zmO.no (x:Off)(base a:Nat)(T:Nat->zcB)(w':World):zmO base a (znZ x) 0 0 0 0 T false (.returned (.tuple #[.agg #[.slice none 0 0,.slice none 0 0,.slice none 0 0],.agg #[int i64 0,int i64 0,int i64 0,.slice none 0 0],.bool false])) w' :=
 ⟨none,0,none,0,none,0,none,0,_,_,_,_,_,_,rfl,zmi w' base (znZ x),zbS w' a _ _⟩
theorem zmO.rows {base c:Nat}{d:Off}{T b:Nat->zcB}{ok:Bool}{e:Ending}{w':World}(h:zmO base c d a name price N T ok e w')(q:N=0∨T=b):zmO base c d a name price N b ok e w':=by
 unfold zmO at h ⊢;rw[zoa T b q] at h;exact h
end
theorem works_len {x:Off}{y:OpD}{m:Nat}{a:Int}(d:Zk x)(b:ZZ x y m):(qk x a y m).length<=18:=by
 unfold qk;have q1:=zjg b.1;have q2:=QD true (x.bk m).who ⟨(x.bk m).pe,(x.bk m).len,(x.bk m).hei,(x.bk m).cl,(x.bk m).all,(x.bk m).be⟩ (x.bk m).lg (x.bk m).lgn;have q3:=QD false a ⟨y.pe,y.len,y.hei,y.cl,y.all,y.be⟩ y.lg y.lgn;have f:Qt y.kind->(x.bk m).lgn<=3:=λe=>(d.2.2.2.2.1 m (b.2.2 (zaR e)).2.1).2.2.2.1.2.1
 rw[List.length_append];have p1:(if Qt y.kind then Zh true (x.bk m).who ⟨(x.bk m).pe,(x.bk m).len,(x.bk m).hei,(x.bk m).cl,(x.bk m).all,(x.bk m).be⟩ (x.bk m).lg (x.bk m).lgn else []).length<=9:=by
  by_cases c:Qt y.kind
  ·rw[Jf c];have:=f c;omega
  ·rw[Je c];decide
 have p2:(if zJ y.kind then Zh false a ⟨y.pe,y.len,y.hei,y.cl,y.all,y.be⟩ y.lg y.lgn else []).length<=9:=by
  by_cases c:zJ y.kind
  ·rw[Jf c];omega
  ·rw[Je c];decide
 omega
def PerfAns (pe:Nat->Addr)(x:Off)(b:Int)(y:OpD)(m base l:Nat)(e:Ending)(w':World):Prop :=
 (∃ (a:Off) (d:Option Addr) (h:Nat) (f:Option Addr) (i:Nat) (g:Option Addr) (j:Nat) (name price:Int) (k:Value) (L C A B D E:Nat->Value) (M:Nat->zY),e=.returned (.tuple #[.agg #[(d,a.san,h),(f,a.ldn,i),(g,a.bkn,j)],.agg #[(),name,price,k]]) /\
  zF w' base (d,a.san,h) (f,a.ldn,i) (g,a.bkn,j) a.san a.ldn a.bkn a L C A B D E/\zhG x b y m a 0 name price/\zav x (qk x b y m) (qk x b y m).length M/\zdA { x with ld:=M } y l w' k) ∨
 (∃ c:Nat,1<=c/\c<=8/\e=zmK pe c/\zhG x b y m x (c:Int) 0 0)
theorem zfS.putL {w u:World}{a c b:Value}{os:Array Value}(h:zfS w u a c b os)(q:Value):zfS w (u.setCell (w.heap.size,1) q) a q b os :=
 ⟨by simpa using zm h.bo 1 q,zD (b':=w.heap.size) h.bp 1 q (by omega),zD (b':=w.heap.size) h.br 1 q (by omega),zD (b':=w.heap.size) h.ba 1 q (by omega)⟩
theorem zmj (x:Off)(H X R:Option Addr)(c1 c2 c3 base:Nat)(L C A B D E:Nat->Value)(S:Int)(y:OpD)(r:Option Addr)(s m:Nat)(pe:Nat->Addr)(w:World)(hO:Zk x)(hs:Off.Short x 1048576)(f4:zbn x.bkn x.bk S)(hF:Zm w)(e8:∀ V,Below base w V->Zq V/\Zu V)(he:qY w pe)
  (f6:zT w r y.lgn y.lg) (h0:qj r y.lgn s) (ho:y.own.size<=1048576) (hl:y.lgn<=1048576) (hm:zac y->In y.kind 4 8->y.name=(m:Int)+1) (b4:base<=w.heap.size) (d4:zF w base (H,x.san,c1) (X,x.ldn,c2) (R,x.bkn,c3) x.san x.ldn x.bkn x L C A B D E) :
  Calls prog 53 #[.agg #[(H,x.san,c1),(X,x.ldn,c2),(R,x.bkn,c3)],S,.agg (y,r,s)] w λe w'=>PerfAns pe x S y m base w.heap.size e w'/\zx w w' (λb=>(Value.slice R x.bkn c3).ownBlock=some b):=by
 have G:=hI hO;have HS:=hI hs;have b8:=hI f4;have HF:=hI hF;have e7:=hI e8;have HE:=hI he;have Z:Hid (zT w r y.lgn y.lg/\qj r y.lgn s):=⟨f6,h0⟩;have h4:=hI hm;have Q:=hI d4;have e3:x.bkn<=30:=hO.2.2.1;have e6:=hI hO.2.1;have n:Hid _:=zfS.start w (H,x.san,c1) (X,x.ldn,c2) (R,x.bkn,c3) (y,r,s);have f:Below w.heap.size w ((((w.alloc (.cells #[(H,x.san,c1),(X,x.ldn,c2),(R,x.bkn,c3)] 38)).alloc (.cells (y,r,s) 47)).alloc (.cells #[True,True,True] 38)).alloc (.cells #[(),(),(),True] 41)):=zk (zk (zk (zk bZ _) _) _) _;clear hO hs f4 hF e8 he f6 h0 hm d4;go_enter func53,ntmps53;go_upto_region 1 with fail;generalize (((w.alloc (.cells #[(H,x.san,c1),(X,x.ldn,c2),(R,x.bkn,c3)] 38)).alloc (.cells (y,r,s) 47)).alloc (.cells #[True,True,True] 38)).alloc (.cells #[(),(),(),True] 41)=U at n f ⊢;obtain⟨f0,f1,f2⟩:=ce3 n.bo;obtain⟨g0,g1,g2,g3,g4,g5,g6,g7,g8,g9,J,N⟩:=zeW n.bp;go_wp2_with fail;clear f0 f1 f2 g0 g1 g2 g3 g4 g5 g6 g7 g8 g9 J N;refine(asked_any x y H r c1 s m pe U G HS (HF.below f) (HE.below f) ⟨r,s,rfl,Z.1.below f,Z.2⟩ ho hl (Z.1.below f) (Q.below f).sa.at).mono ?_;rintro e U1 ⟨hA|⟨c,h1,h8,rfl,e4⟩,o⟩
 case inr =>
  have b5:(c:Int)≠0:=by omega
  unfold zmK;dsimp only;exact⟨rfl,.inr ⟨c,h1,h8,rfl,.inl ⟨b5,rfl,rfl,rfl,e4⟩⟩,zx.of_below (ze f o)⟩
 obtain⟨rfl,f8,hR⟩:=hA;replace n:Hid _:=n.below o;replace f:=ze f o;clear o U;have d6:Hid (zac y/\¬ Qk x.san x y):=⟨f8,hR⟩;clear f8 hR;obtain⟨f0,f1,f2⟩:=ce3 n.bo;obtain⟨g0,g1,g2,g3,g4,g5,g6,g7,g8,g9,J,N⟩:=zeW n.bp;go_wp2_with fail;clear f0 f1 f2 g0 g1 g2 g3 g4 g5 g6 g7 g8 g9 J N;refine(named_any x y R r c3 s m pe U1 e3 (HF.below f) (HE.below f) d6.1 d6.2 h4 (Q.below f).bk.at).mono ?_;rintro e U2 ⟨hA|⟨c,h1,h8,rfl,e4⟩,o⟩
 case inr =>
  have b5:(c:Int)≠0:=by omega
  unfold zmK;dsimp only;exact⟨rfl,.inr ⟨c,h1,h8,rfl,.inl ⟨b5,rfl,rfl,rfl,e4⟩⟩,zx.of_below (ze f o)⟩
 obtain⟨rfl,f7⟩:=hA;have t:=hI f7;replace n:Hid _:=n.below o;replace f:=ze f o;clear o U1 f7 d6;go_upto_region 3 with fail;replace n:Hid _:=n.below (Ji _ U2).drew;replace f:=f.drew;refine qg 8 8 (λu=>u.cell? (w.heap.size,0)=some (H,x.san,c1)/\u.cell? (w.heap.size,1)=some (X,x.ldn,c2)/\u.cell? (w.heap.size,2)=some (R,x.bkn,c3)/\u.cell? (w.heap.size+1,0)=some (int i64 y.kind)/\u.cell? (w.heap.size+1,1)=some (.string y.own)/\u.cell? (w.heap.size+1,2)=some (int i64 y.name)/\u.cell? (w.heap.size+1,3)=some (r,y.lgn,s)/\u.cell? (w.heap.size+1,4)=some (int i64 y.pe)/\u.cell? (w.heap.size+1,5)=some (int i64 y.len)/\u.cell? (w.heap.size+1,6)=some (int i64 y.hei)/\u.cell? (w.heap.size+1,7)=some (int i64 y.cl)/\u.cell? (w.heap.size+1,8)=some (.bool y.all)/\u.cell? (w.heap.size+1,9)=some (int i64 y.be)/\u.cell? (w.heap.size+1,10)=some (int i64 y.unt)/\u.cell? (w.heap.size+1,11)=some (int i64 y.now)) rfl (by kernel_rfl) (⟨za n.bo 0 _ rfl,za n.bo 1 _ rfl,za n.bo 2 _ rfl,za n.bp 0 _ rfl,za n.bp 1 _ rfl,za n.bp 2 _ rfl,za n.bp 3 _ rfl,za n.bp 4 _ rfl,za n.bp 5 _ rfl,za n.bp 6 _ rfl,za n.bp 7 _ rfl,za n.bp 8 _ rfl,za n.bp 9 _ rfl,za n.bp 10 _ rfl,za n.bp 11 _ rfl⟩) (λhS=>?_)
 simp only[List.replicate_succ,List.replicate_zero];generalize U2.drew=u0 at n f hS ⊢
 iterate 5 (refine tFN 0 (v:=?_) rfl (by kernel_rfl) (λ_ _ _ h=>h) rfl (by assumption) ?_ ?_;rotate_left;(focus(intro w' h;(try dsimp only at h);go_simp;try with_reducible rfl));simp only[Act.put,sB,sZ,sS])
 refine zj (rs:=[5]) (by kernel_rfl) (by simp) ?_
 refine zc.consL rfl (λK hK=>?_) zc.nil
 go_simp;go_at_call 109;obtain⟨k,hk,f5,h6⟩:=zjj t.1;refine Jm (zjd x R c3 S y r s k m u0 (HF.below f) hk f5 (Q.below f).bk.at (λhf=>by obtain⟨q1,q2,_⟩:=t.2.2 (zaR hf);have e9:=G.2.2.2.2.1 m q2;exact⟨q1,q2,e9.2.2.2.1.2.1,zkj e9.2.2.2.2.1⟩) (λhh=>⟨(t.legs hh).2.1,zkj (t.party hh)⟩) (Z.1.below f) (by omega)) ?_
 rintro e u1 ⟨⟨v,rfl,c9⟩,o⟩;clear hk f5 h6 k;obtain⟨l,c0⟩:∃ l,l=qk x S y m:=⟨_,rfl⟩;have d8:Hid (l.Pairwise zdu/\(∀ v ∈ l,Apt x x.ld v/\WkOk x v)/\l.length<=18):=by
  rw[c0];exact⟨(zeK G t b8.1 b8.2).1,(zeK G t b8.1 b8.2).2,works_len G t⟩
 rw[← c0] at c9;have HL:=hI c0;obtain⟨aw,cw,rfl,_⟩:=zp c9;have h5:Hid _:=c9;dsimp only;replace n:Hid _:=n.below o;replace f:=ze f o;refine hK _ _ (⟨za n.bo 0 _ rfl,za n.bo 1 _ rfl,za n.bo 2 _ rfl,za n.bp 0 _ rfl,za n.bp 1 _ rfl,za n.bp 2 _ rfl,za n.bp 3 _ rfl,za n.bp 4 _ rfl,za n.bp 5 _ rfl,za n.bp 6 _ rfl,za n.bp 7 _ rfl,za n.bp 8 _ rfl,za n.bp 9 _ rfl,za n.bp 10 _ rfl,za n.bp 11 _ rfl⟩) (λhS=>?_)
 clear hK K o c9 c0;simp only[sZ,sS];refine zj (rs:=[6]) (by kernel_rfl) (by simp) ?_
 refine zc.consL rfl (λK hK=>?_) zc.nil
 go_simp;go_at_call 108;refine Jm (znU x H X R c1 c2 c3 L C A B D E l aw cw base _ pe u1 G HS d8.1 d8.2.1 (HE.below f) (Q.below f) (Jp b4 f.size) h5 d8.2.2) ?_;rintro e u2 ⟨hA|⟨j,M,v,k,c,rfl,h1,h8,d0,hv,hk,h7,i3⟩,o⟩
 case inr =>
  have b5:(c:Int)≠0:=by omega
  unfold zmK;dsimp only;exact⟨rfl,.inr ⟨c,h1,h8,rfl,.inr (.inl ⟨t,b5,rfl,rfl,rfl,j,M,v,k,by rw[← HL.out];exact d0,by rw[← HL.out];exact hv,hk,h7,i3⟩)⟩,zx.of_below (ze f o)⟩
 obtain⟨M,ga,gc,A2,B2,D2,rfl,d0,f9⟩:=hA;have a4:=hI d0;have b9:Hid _:=f9;dsimp only;replace n:Hid _:=n.below o;replace f:=ze f o;refine hK _ _ (⟨za n.bo 0 _ rfl,za n.bo 1 _ rfl,za n.bo 2 _ rfl,za n.bp 0 _ rfl,za n.bp 1 _ rfl,za n.bp 2 _ rfl,za n.bp 3 _ rfl,za n.bp 4 _ rfl,za n.bp 5 _ rfl,za n.bp 6 _ rfl,za n.bp 7 _ rfl,za n.bp 8 _ rfl,za n.bp 9 _ rfl,za n.bp 10 _ rfl,za n.bp 11 _ rfl⟩) (λhS=>?_)
 clear hK K o d0 f9;simp only[sZ,sS]
 (refine tFN 7 (v:=?_) rfl (by kernel_rfl) (λ_ _ _ h=>h) rfl (by assumption) ?_ ?_;rotate_left;(focus(intro w' h;(try dsimp only at h);go_simp;try with_reducible rfl));simp only[Act.put,sB,sZ,sS])
 refine zX (by kernel_rfl) ?_ _
 clear hS;obtain⟨f0,f1,f2⟩:=ce3 n.bo;obtain⟨g0,g1,g2,g3,g4,g5,g6,g7,g8,g9,J,N⟩:=zeW n.bp;go_wp2_with fail;clear f0 f1 f2 g0 g1 g2 g3 g4 g5 g6 g7 g8 g9 J N
 by_cases hf:(y.kind=2∨y.kind=3)/\30<=x.bkn
 case pos =>
  refine(ziW y r s R x.bkn c3 pe u2 (HE.below f) hf.1 hf.2).mono ?_;rintro e U3 ⟨rfl,o⟩;dsimp only;refine⟨rfl,.inr ⟨8,by decide,by decide,rfl,.inr (.inr ⟨t,M,{ x with ld:=M },by rw[← HL.out];exact a4,.inr (.inr (.inl ⟨hf.1,?_,rfl,rfl,rfl,rfl⟩)),λ_=>rfl,λq=>absurd (.inl (by decide)) q⟩)⟩,zx.of_below (ze f o)⟩
  show x.bkn=30
  have:=hf.2
  omega
 have a8:Hid (y.kind=2∨y.kind=3->x.bkn<30):=λq=>by
  by_cases d:x.bkn<30
  ·exact d
  ·exact absurd ⟨q,by omega⟩ hf
 refine(zkL y r s R x.bkn c3 pe u2 (HE.below f) (by by_cases q:y.kind=2∨y.kind=3;exact .inr (a8 q);exact .inl q)).mono ?_
 rintro e U3 ⟨rfl,o⟩;replace n:Hid _:=n.below o;replace b9:Hid _:=b9.below o;replace f:=ze f o;clear o hf
 by_cases k1:y.kind=1
 ·have d1:(y.kind != 1)=false:=by simpa using k1
  have d2:(y.kind == 1)=true:=by simpa using k1
  have Y:=hI k1;clear k1;have HO:Hid _:=Q.below f;obtain⟨f0,f1,f2⟩:=ce3 n.bo;obtain⟨g0,g1,g2,g3,g4,g5,g6,g7,g8,g9,J,N⟩:=zeW n.bp;go_wp2_with fail;refine(zif x H X R c1 c2 c3 base L C A B D E S y r s m U3 G.1 e3 e6 (λi hi=>(G.2.2.2.2.1 i hi).2.2.2.1) t a8 (λV hV=>e7 V ((f.mono b4).trans (hV.mono (Jr _)))) (Z.1.below f) (λq=>⟨HS,G.2.2.2.1⟩) (Jp b4 f.size) HO).mono ?_
  rintro e ws ⟨⟨z,b3,d3,name,price,rv,Ez,rfl,b7,b6,P⟩,O⟩;have a9:Hid _:=b7;have a5:=hI b6;have b1:Hid _:=P;have F:=O.blk n.br (λe=>zQ HO.bk.row n.br (by decide) _ e rfl)
  have I:=O.blk n.ba (λe=>zQ HO.bk.row n.ba (by decide) _ e rfl)
  have a6:=hI ((zx.of_below f).trans O);obtain⟨ra,rn,rc,rfl⟩:∃ ra rn rc,rv=.slice ra rn rc:=by
   by_cases h9:y.kind=9
   ·obtain⟨_,_,_,h3⟩:=P.1 h9
    obtain⟨ao,c,e,_⟩:=zp h3;exact⟨ao,_,c,e⟩
   ·exact⟨none,0,0,P.2 h9⟩
  clear b7 b6 P O;clear f0 f1 f2 g0 g1 g2 g3 g4 g5 g6 g7 g8 g9 J N;obtain⟨r0,r1,r2⟩:=ce3 F;obtain⟨i4,e5,i5⟩:=fe3 F;obtain⟨t0,t1,t2,t3⟩:=ce4 I;obtain⟨i6,i7,i8,i9⟩:=fe4 I;have k3:=QG ws (w.heap.size+1+1) (H,x.san,c1) (X,x.ldn,c2) (b3,z.bkn,d3);have k4:=QH (qt ws (w.heap.size+1+1) (H,x.san,c1) (X,x.ldn,c2) (b3,z.bkn,d3)) (w.heap.size+1+1+1) () name price (ra,rn,rc);have W:=k3.blk I (show ¬ w.heap.size+1+1+1=w.heap.size+1+1 by omega)
  have b0:Hid _:=(a9.box k3 F (by decide)).box k4 W (by decide)
  have b2:Hid _:=k4.blk (zcq F (H,x.san,c1) (X,x.ldn,c2) (b3,z.bkn,d3)) (show ¬ w.heap.size+1+1=w.heap.size+1+1+1 by omega)
  have d9:Hid _:=zcJ W () name price (ra,rn,rc);have a7:Hid _:=lowK a6 (H,x.san,c1) (X,x.ldn,c2) (b3,z.bkn,d3) () name price (ra,rn,rc);have a0:Hid _:=zeQ b1 ((k3.mono (T:=λb=>b=w.heap.size+1+1∨b=w.heap.size+1+1+1) (λb e=>.inl e)).trans (k4.mono (λb e=>.inr e))) (λg e=>by rcases e with e|e;exact⟨_,_,by rw[e];exact F,by decide⟩;exact⟨_,_,by rw[e];exact I,by decide⟩)
  unfold ZK qt at b0 b2 a7 a0;clear k3 k4 W a9 b1 a6 I F;go_wp2;have Z3:=b2;have Z4:=d9;unfold qt at Z4;obtain⟨z0,z1,z2⟩:=ce3 Z3;obtain⟨t0,t1,t2,t3⟩:=ce4 Z4;refine Jj (v:=.tuple #[.agg #[(H,x.san,c1),(X,x.ldn,c2),(b3,z.bkn,d3)],.agg #[(),name,price,(ra,rn,rc)]]) (by simp[results,results53,go_sem,z0,z1,z2,t0,t1,t2,t3]) rfl ?_
  obtain⟨e1,e2⟩:=a5.size;have hz:z=x/\name=0/\price=zE ⟨y.pe,y.len,y.hei,y.cl,y.all,y.be⟩ y.lgn:=by
   rcases a5 with⟨_,q1,_,q2,q3⟩|⟨q,_⟩|⟨q,_⟩|⟨q,_⟩|⟨q,_⟩
   ·exact⟨q1,q2,q3⟩
   all_goals (have:=Y.out;first|omega|(unfold In at q;omega))
  have i0:=a0;refine⟨.inl ⟨z,H,c1,X,c2,b3,d3,name,price,_,L,C,A,B,D,Ez,M,by rw[e1,e2],by rw[e1,e2];exact b0.out,.inr (.inr ⟨t.out,M,{ x with ld:=M },by rw[← HL.out];exact a4.out,.inl ⟨Y.out,rfl,rfl,hz.2.1,hz.2.2⟩,λ_=>hz.1,λq=>absurd (.inr Y.out) q⟩),by rw[← HL.out];exact a4.out,λq=>by have:=Y.out;omega,i0.2⟩,a7.out⟩
 ·have d1:(y.kind != 1)=true:=by simpa using k1
  have d2:(y.kind == 1)=false:=by simpa using k1
  have Y:=hI k1;clear k1;have HO:Hid (zF U3 base (H,x.san,c1) (ga,x.ldn,gc) (R,x.bkn,c3) x.san x.ldn x.bkn { x with ld:=M } L C A2 B2 D2 E):=⟨(Q.below f).sa,b9,(Q.below f).bk⟩;have r1:=za n.bo 1 _ rfl;have e5:=zg n.bo 1;have g0:=za n.bp 0 _ rfl;have d7:Hid _:=n.putL (ga,x.ldn,gc);have d5:Hid _:=HO.box ((zx.refl U3 (λb=>b=w.heap.size)).set (a:=(w.heap.size,1)) rfl (ga,x.ldn,gc)) n.bo (by decide)
  have e0:Below w.heap.size w (U3.setCell (w.heap.size,1) (ga,x.ldn,gc)):=f.setCell (p:=(w.heap.size,1)) (Jr _) _;go_upto_region 7 with fail;generalize U3.setCell (w.heap.size,1) (ga,x.ldn,gc)=U4 at d7 d5 e0 ⊢;clear r1 e5 g0 n HO f b9;have n:=d7;have HO:=d5;have f:=e0;clear d7 d5 e0;obtain⟨f0,f1,f2⟩:=ce3 n.bo;obtain⟨g0,g1,g2,g3,g4,g5,g6,g7,g8,g9,J,N⟩:=zeW n.bp;go_wp2_with fail;refine(zif { x with ld:=M } H ga R c1 gc c3 base L C A2 B2 D2 E S y r s m U4 G.1 e3 e6 (λi hi=>(G.2.2.2.2.1 i hi).2.2.2.1) t a8 (λV hV=>e7 V ((f.mono b4).trans (hV.mono (Jr _)))) (Z.1.below f) (λq=>by have hM:M=x.ld:=zav.nine (by rw[← HL.out];exact a4) q;subst hM;exact⟨HS,G.2.2.2.1⟩) (Jp b4 f.size) HO).mono ?_
  rintro e ws ⟨⟨z,b3,d3,name,price,rv,Ez,rfl,b7,b6,P⟩,O⟩;have a9:Hid _:=b7;have a5:=hI b6;have b1:Hid _:=P;have F:=O.blk n.br (λe=>zQ HO.bk.row n.br (by decide) _ e rfl)
  have I:=O.blk n.ba (λe=>zQ HO.bk.row n.ba (by decide) _ e rfl)
  have a6:=hI ((zx.of_below f).trans O);obtain⟨ra,rn,rc,rfl⟩:∃ ra rn rc,rv=.slice ra rn rc:=by
   by_cases h9:y.kind=9
   ·obtain⟨_,_,_,h3⟩:=P.1 h9
    obtain⟨ao,c,e,_⟩:=zp h3;exact⟨ao,_,c,e⟩
   ·exact⟨none,0,0,P.2 h9⟩
  clear b7 b6 P O;clear f0 f1 f2 g0 g1 g2 g3 g4 g5 g6 g7 g8 g9 J N;obtain⟨r0,r1,r2⟩:=ce3 F;obtain⟨i4,e5,i5⟩:=fe3 F;obtain⟨t0,t1,t2,t3⟩:=ce4 I;obtain⟨i6,i7,i8,i9⟩:=fe4 I;have k3:=QG ws (w.heap.size+1+1) (H,x.san,c1) (ga,x.ldn,gc) (b3,z.bkn,d3);have k4:=QH (qt ws (w.heap.size+1+1) (H,x.san,c1) (ga,x.ldn,gc) (b3,z.bkn,d3)) (w.heap.size+1+1+1) () name price (ra,rn,rc);have W:=k3.blk I (show ¬ w.heap.size+1+1+1=w.heap.size+1+1 by omega)
  have b0:Hid _:=(a9.box k3 F (by decide)).box k4 W (by decide)
  have b2:Hid _:=k4.blk (zcq F (H,x.san,c1) (ga,x.ldn,gc) (b3,z.bkn,d3)) (show ¬ w.heap.size+1+1=w.heap.size+1+1+1 by omega)
  have d9:Hid _:=zcJ W () name price (ra,rn,rc);have a7:Hid _:=lowK a6 (H,x.san,c1) (ga,x.ldn,gc) (b3,z.bkn,d3) () name price (ra,rn,rc);have a0:Hid _:=zeQ b1 ((k3.mono (T:=λb=>b=w.heap.size+1+1∨b=w.heap.size+1+1+1) (λb e=>.inl e)).trans (k4.mono (λb e=>.inr e))) (λg e=>by rcases e with e|e;exact⟨_,_,by rw[e];exact F,by decide⟩;exact⟨_,_,by rw[e];exact I,by decide⟩)
  unfold ZK qt at b0 b2 a7 a0;clear k3 k4 W a9 b1 a6 I F;go_wp2;have Z3:=b2;have Z4:=d9;unfold qt at Z4;obtain⟨z0,z1,z2⟩:=ce3 Z3;obtain⟨t0,t1,t2,t3⟩:=ce4 Z4;refine Jj (v:=.tuple #[.agg #[(H,x.san,c1),(ga,x.ldn,gc),(b3,z.bkn,d3)],.agg #[(),name,price,(ra,rn,rc)]]) (by simp[results,results53,go_sem,z0,z1,z2,t0,t1,t2,t3]) rfl ?_
  obtain⟨e1,e2⟩:=a5.size;dsimp only at e1 e2;refine⟨.inl ⟨z,H,c1,ga,gc,b3,d3,name,price,_,L,C,A2,B2,D2,Ez,M,by rw[e1,e2],by rw[e1,e2];exact b0,.inr (.inr ⟨t,M,z,by rw[← HL.out];exact a4,a5,λq=>by rcases q with q|q;exact absurd rfl q;exact absurd q Y,λ_=>rfl⟩),by rw[← HL.out];exact a4,λq=>by obtain⟨k,q1,q2,q3⟩:=a0.1 q;exact⟨k,q1,q2,zu q3 f.size⟩,a0.2⟩,a7⟩
end Go.Proofs.YtmdnjgihooflfaaGreatDoor

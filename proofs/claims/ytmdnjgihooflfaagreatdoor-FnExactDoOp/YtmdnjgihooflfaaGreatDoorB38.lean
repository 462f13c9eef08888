/-
  OWN TEXT: KitAnswer, MarkMRm, MarkMRow, MarkAn0, EqAnsI, PlainOs, LawDop.
-/
import Derived.Test.YtmdnjgihooflfaaGreatDoorKitCo
import Derived.Deep.RegionHeld3
import Derived.Deep.DeepCutAuto
import Derived.Test.YtmdnjgihooflfaaGreatDoorB37
namespace Go.Proofs.YtmdnjgihooflfaaGreatDoor
open Go.RowKit
open Go.Value (int)
open Go.IntKind (i64)
open Tryz
set_option maxHeartbeats 64000000
set_option maxRecDepth 100000
section
open Go.RowKit
end
theorem zfM (z:Int)(w:World)(a:0<=z)(hk:z<=1000000000000000) :
  Calls prog 71 #[z] w λe w'=>e=.returned (zbl z.toNat)/\Below w.heap.size w w':=by
 obtain⟨q,rfl⟩:=Int.eq_ofNat_of_zero_le a;exact zho q w (by omega)
def Qp (k0:Nat)(i:Nat):zcB:=⟨(k0:Int)+5*i,zbl (k0+5*i+1),(k0:Int)+5*i+2,(k0:Int)+5*i+3,(k0:Int)+5*i+4⟩
theorem zli (o:Option Addr)(n c base k0:Nat)(S:Nat->zcB)(w:World)(hn:n<=2097152)(h1:k0<=100000000000000)(M:w.ownsRow base 203 5 (o,n,c) n (qW S n)) :
  Calls prog 65 #[.slice o n c,int i64 k0] w λe w'=>e=.returned (int i64 ((k0+5*n:Nat):Int))/\w'.ownsRow base 203 5 (.slice o n c) n (qW (Qp k0) n)/\zx w w' (λb=>(Value.slice o n c).ownBlock=some b):=by
 go_enter func65,ntmps65;go_wp2;go_loopw [1,5] (λq i wr=>∃ (t k:Nat),t<=n/\i=int i64 t/\q=int i64 k/\k=k0+5*t/\wr.ownsRow base 203 5 (o,n,c) n ((List.range (n*5)).map (QX (λi=>if i<t then Qp k0 i else S i)))/\zx w wr (λb=>(Value.slice o n c).ownBlock=some b)) (λ_ i _=>n - (intOf i).toNat)
 case atStart=>exact⟨0,k0,Jq _,rfl,rfl,by omega,by simpa [qW] using M,zx.refl _ _⟩
 case round =>
  obtain⟨t,k,ht,rfl,rfl,p,f,x⟩:=hrel;have l:=hI p;have kb:k<=200000000000000:=by omega
  clear p
  by_cases hlt:t<n
  ·obtain⟨g,rfl,J,K⟩:=qh f (by omega)
   obtain⟨v0,s⟩:∃ v,_=some v:=⟨_,zs f (t*5) (by omega) rfl⟩
   have u:=f.frozenAt (t*5);go_wp2_with fail;refine(zfM _ _ (by omega) (by omega)).mono ?_
   rintro e w2 ⟨rfl,m⟩;have d:=zo m (zL f _ _);have y:=(x.set (a:=⟨g,t*5,_⟩) rfl _).trans (zx.of_below m);clear s u m f x;obtain⟨v1,B⟩:∃ v,_=some v:=⟨_,zs d (t*5+1) (by omega) rfl⟩
   have F:=d.frozenAt (t*5+1);obtain⟨v2,C⟩:∃ v,_=some v:=⟨_,zs d (t*5+2) (by omega) rfl⟩
   have G:=d.frozenAt (t*5+2);obtain⟨v3,D⟩:∃ v,_=some v:=⟨_,zs d (t*5+3) (by omega) rfl⟩
   have H:=d.frozenAt (t*5+3);obtain⟨v4,E⟩:∃ v,_=some v:=⟨_,zs d (t*5+4) (by omega) rfl⟩
   have I:=d.frozenAt (t*5+4);have r:((k:Int)+1).toNat=k0+5*t+1:=by have:=l.out;omega
   rw[r];clear r;go_wp2;go_roundw
   case rel =>
    refine⟨t+1,k+5,by omega,by go_num,by go_num,by have:=l.out;omega,qR (zL (zL (zL (zL d _ _) _ _) _ _) _ _) (λj hj=>?_),((((y.set (a:=⟨g,_+1,_⟩) rfl _).set (a:=⟨g,_+2,_⟩) rfl _).set (a:=⟨g,_+3,_⟩) rfl _).set (a:=⟨g,_+4,_⟩) rfl _)⟩
    have e0:(k:Int)=(k0:Int)+5*t:=by have:=l.out;omega
    have A:∀ (S'),(∀ i,i≠t->S' i=(if i<t then Qp k0 i else S i))->(S' t=Qp k0 t)->QX S' j=QX (λi=>if i<t+1 then Qp k0 i else S i) j:=by
     intro S' h1 h2;unfold QX;have:S' (j / 5)=(if j / 5<t+1 then Qp k0 (j / 5) else S (j / 5)):=by
      by_cases e:j / 5=t
      ·rw[e,h2,Jf (by omega)]
      ·rw[h1 _ e]
       by_cases e2:j / 5<t
       ·rw[Jf e2,Jf (by omega)]
       ·rw[Je e2,Je (by omega)]
     rw[this]
    rw[← A (λi=>if i=t then Qp k0 t else _) (λi h=>Je h) (Jf rfl)]
    by_cases h4:j=t*5+4
    ·subst h4;rw[Jf rfl,zhd,Jf rfl];simp[Qp];try omega
    rw[Je h4]
    by_cases h3:j=t*5+3
    ·subst h3;rw[Jf rfl,zhc,Jf rfl];simp[Qp];try omega
    rw[Je h3]
    by_cases h2:j=t*5+2
    ·subst h2;rw[Jf rfl,zhb,Jf rfl];simp[Qp];try omega
    rw[Je h2]
    by_cases h1:j=t*5+1
    ·subst h1;rw[Jf rfl,zha,Jf rfl];simp[Qp];try omega
    rw[Je h1]
    by_cases h0:j=t*5
    ·subst h0;rw[Jf rfl,zgZ,Jf rfl];simp[Qp];try omega
    rw[Je h0];have z:j / 5≠t:=by omega
    unfold QX;simp only[Je z]
   case measure=>simp[intOf];omega
  ·obtain rfl:t=n:=by omega
   go_wp2;go_ret;refine⟨by rw[l.out];rfl,?_,x⟩
   rw[zcX (S':=λi=>if i<t then _ else S i) (λi L=>(Jf L).symm)]
   exact f
theorem zlj (v:Option Addr)(n c k0:Nat)(w:World)(hn:n<=2097152)(h1:k0<=100000000000000)(z:zbk w v n (Qp k0)) :
  Calls prog 69 #[.slice v n c,int i64 k0] w λe w'=>e=.returned (int i64 ((k0+5*n:Nat):Int))/\Below w.heap.size w w':=by
 have A:=hI z;clear z;go_enter func69,ntmps69;go_wp2;go_loopw [1,5] (λq i wr=>∃ (t k:Nat),t<=n/\i=int i64 t/\q=int i64 k/\k=k0+5*t/\Below w.heap.size w wr) (λ_ i _=>n - (intOf i).toNat)
 case atStart=>exact⟨0,k0,Jq _,rfl,rfl,by omega,bZ⟩
 case round =>
  obtain⟨t,k,ht,rfl,rfl,o,a⟩:=hrel;have d:=hI o;have kb:k<=200000000000000:=by omega
  clear o
  by_cases hlt:t<n
  ·obtain⟨b,off,rfl,f,c1,c2,c3,c4⟩:=A t hlt
   simp only[Qp] at f c1 c2 c3 c4;have x:(k0:Int)+5*t=(k:Int):=by have:=d.out;omega
   have y:k0+5*t+1=((k:Int)+1).toNat:=by have:=d;omega
   rw[x] at f c2 c3 c4;rw[y] at c1;have j:=Ja w _ f;have i1:(0:Int)<=(t:Int):=by omega
   have i2:(t:Int)<(n:Int):=by omega
   obtain⟨s,g⟩:∃ s,s=zbl ((k:Int)+1).toNat:=⟨_,rfl⟩;rw[← g] at c1;have u:=hI g;have r:Hid (∀ w',Below _ w w'->_/\_/\_/\_/\_):=λw' h =>
    ⟨(h.cell j).trans f,(h.cell (p:=⟨b,_+1,_⟩) j).trans c1,(h.cell (p:=⟨b,_+2,_⟩) j).trans c2,(h.cell (p:=⟨b,_+3,_⟩) j).trans c3,(h.cell (p:=⟨b,_+4,_⟩) j).trans c4⟩
   clear f c1 c2 c3 c4 x y g;obtain⟨f,c1,_,_,_⟩:=r wr a;go_wp2;clear f;go_region_held3 (λw'=>w'.cell? (b,off+t*5+1)=some (.string s))
    ((first|exact c1|exact(r _ (ze a.drew l)).2.1))
    (first|(go_at_call 71;refine(zfM _ _ (by omega) (by omega)).mono ?_;rintro e B ⟨rfl,l⟩;rw[← u.out]))
   all_goals
    have m:=ze a.drew l;obtain⟨_,_,c2,c3,c4⟩:=r B m;have f2:(((k:Int)+2) != (k:Int)+1+1)=false:=by simp;omega
    have f3:(((k:Int)+3) != (k:Int)+1+1+1)=false:=by simp;omega
    have f4:(((k:Int)+4) != (k:Int)+1+1+1+1)=false:=by simp;omega
    go_wp2;go_roundw
    case rel=>exact⟨t+1,k+5,by omega,by go_num,by go_num,by have:=d.out;omega,m⟩
    case measure=>simp[intOf];omega
  ·obtain rfl:t=n:=by omega
   go_wp2;go_ret;exact⟨by rw[d.out];rfl,a⟩
theorem zhJ (d a price:Int)(f:Option Addr)(n c base:Nat)(z:Int)(T:Nat->zcB)(w:World)(o:n<=2097152)(m:0<=z)(h1:z<=100000000000000)(j:w.ownsRow base 203 5 (f,n,c) n (qW T n)) :
  Calls prog 17 #[.agg #[d,a,price,(f,n,c)],z] w λe w'=>e=.returned (int i64 (z+5*n))/\w'.ownsRow base 203 5 (f,n,c) n (qW (Qp z.toNat) n)/\zx w w' (λb=>(Value.slice f n c).ownBlock=some b):=by
 obtain⟨q,rfl⟩:=Int.eq_ofNat_of_zero_le m;have l:=Jb w (.cells #[d,a,price,(f,n,c)] 41);have g:Below _ w (w.alloc (.cells #[d,a,price,(f,n,c)] 41)):=zk bZ _;have x3:=za l 3 _ rfl;have k:=hI j;clear j;go_enter func17,ntmps17;go_wp2_with fail;refine(zli f n c _ q T _ o (by omega) (zo g k)).mono ?_
 rintro e w2 ⟨rfl,i,h⟩;go_wp2;go_ret;exact⟨by simp,i,(zx.of_below g).trans h⟩
theorem zei (b a price:Int)(f:Option Addr)(n c k0:Nat)(w:World)(h:n<=2097152)(h1:k0<=100000000000000)(i:zbk w f n (Qp k0)) :
  Calls prog 19 #[.agg #[int i64 b,int i64 a,int i64 price,.slice f n c],int i64 k0] w λe w'=>e=.returned (int i64 ((k0:Int)+5*n))/\Below w.heap.size w w':=by
 have d:Below _ w (w.alloc (.cells #[b,a,price,(f,n,c)] 41)):=zk bZ _;have e0:decide ((k0:Int)+5*(n:Int)<0)=false:=by simp;omega
 go_enter func19,ntmps19;go_wp2_with fail;refine(zlj f n c k0 _ h h1 (i.below d)).mono ?_;rintro e w1 ⟨rfl,g⟩;go_wp2;go_ret;exact⟨rfl,ze d g⟩
theorem zdH (b:Int)(a:Int)(price:Int)(g:Option Addr)(c h:Nat)(rw:Nat->zcB)(d:Option Addr)(f:Nat)(w:World)(p:c<=1048576)(n:zbk w g c rw)(k:zbk w d c rw) :
  Calls prog 13 #[.agg #[b,a,price,(g,c,h)],.agg #[b,a,price,(d,c,f)]] w λe w'=>e=.returned (.bool true)/\Below w.heap.size w w':=by
 have j:Below _ w ((w.alloc (.cells #[b,a,price,(g,c,h)] 41)).alloc (.cells #[b,a,price,(d,c,f)] 41)):=zk (zk bZ _) _;have l:((w.alloc _).alloc (.cells #[b,a,price,(d,c,f)] 41)).heap[w.heap.size]?=some (.cells #[b,a,price,(g,c,h)] 41 (0,0)):=zd (Jb w _) _;have m:((w.alloc (.cells #[b,a,price,(g,c,h)] 41)).alloc (.cells #[b,a,price,(d,c,f)] 41)).heap[w.heap.size+1]?=some (.cells #[b,a,price,(d,c,f)] 41 (0,0)):=by simpa using Jb (w.alloc _) _
 go_enter func13,ntmps13;go_wp2_with fail;generalize (w.alloc _).alloc _=v at j l m ⊢;refine(zmv g _ c h _ rw _ (by omega) (n.below j) (k.below j)).mono ?_
 rintro e v0 ⟨rfl,i⟩;have A1:=zb l i;have B1:=zb m i;have o:=ze j i;clear l m j i;go_wp2;go_ret;exact⟨rfl,o⟩
section
open Go.RowKit
variable{x d:Off}{B m:Nat}{y:OpD}{a name price b:Int}
theorem zmw {M:Nat->zY}{n:Nat}(hB:60<=B)(hn:n=x.san)(h:∀ i,i<x.san->qm (x.sa i) (M i)):ZA n M B:=λi hi=>by
 have g:=h i (by omega)
 exact⟨by have:=((QO _ _ _).1 g.1).2.1;show _<=_;omega,by have:=g.2.1.2.1;show _<=_;omega,by have:=g.2.2.2.1;show _<=_;omega⟩
theorem zfu.short {d:Int}{g:Off}(h:zfu x d y m g a name price)(l:Off.Short x B)(hB:60<=B)(f:y.own.size<=B)(hl:y.lgn<=3):Off.Short g B:=by
 obtain⟨h1,h2,h3⟩:=l
 rcases h with⟨_,rfl,_⟩|⟨_,rfl,_⟩|⟨_,_,rfl,_⟩|⟨_,j,rfl,_⟩|⟨_,k,rfl,_⟩
 ·exact⟨h1,h2,h3⟩
 ·exact⟨h1,h2,h3⟩
 ·exact⟨h1,h2,h3⟩
 ·refine⟨h1,h2,by show x.bkn+1<=B;omega,λi e=>?_⟩
  by_cases c:i=x.bkn
  ·show ql.Short (zah _ _ _ i) B
   rw[c,ZL];exact⟨f,by show y.lgn<=B;omega⟩
  ·show ql.Short (zah _ _ _ i) B
   rw[zaf _ _ _ c];exact h3.2 i (by have:i<x.bkn+1:=e;omega)
 ·refine⟨h1,h2,h3.1,λi e=>?_⟩
  show ql.Short (zah _ m _ i) B
  by_cases c:i=m
  ·rw[c,ZL]
   have b:=h3.2 m k;unfold qx
   split
   ·exact b
   ·split
    ·exact⟨b.1,by show y.lgn<=B;omega⟩
    ·split
     ·exact b
     ·split
      ·exact⟨f,b.2⟩
      ·exact b
  ·rw[zaf _ _ _ c]
   exact h3.2 i e
theorem zhG.short {d:Int}{g:Off}(h:zhG x d y m g a name price)(i:Zk x)(b:Off.Short x B)(f:60<=B)(l:y.own.size<=B):Off.Short g B:=by
 rcases h with⟨_,rfl,_⟩|⟨_,_,rfl,_⟩|⟨k,M,x3,e,j,h1,h2⟩
 ·exact b
 ·exact b
 ·by_cases c:a≠0∨y.kind=1
  ·rw[h1 c];exact b
  ·rw[h2 c]
   exact j.short ⟨b.1,⟨b.2.1.1,zmw f i.2.1 e.good⟩,b.2.2⟩ f l (zjg k.1).2
theorem zhG.few {e:Int}(h:zhG x e y m d b name price)(f:Zk x):d.bkn<=30/\d.san=x.san/\d.sa=x.sa:=by
 have a:=f.2.2.1
 rcases h with⟨_,rfl,_⟩|⟨_,_,rfl,_⟩|⟨hf,M,x3,i,g,h1,h2⟩
 ·exact⟨a,rfl,rfl⟩
 ·exact⟨a,rfl,rfl⟩
 ·by_cases c:b≠0∨y.kind=1
  ·rw[h1 c];exact⟨a,rfl,rfl⟩
  ·rw[h2 c]
   rcases g with⟨_,rfl,_⟩|⟨_,rfl,_⟩|⟨_,_,rfl,_⟩|⟨_,h3,rfl,_⟩|⟨_,_,rfl,_⟩
   ·exact⟨a,rfl,rfl⟩
   ·exact⟨a,rfl,rfl⟩
   ·exact⟨a,rfl,rfl⟩
   ·exact⟨by have h3:x.bkn<30:=h3;show x.bkn+1<=30;omega,rfl,rfl⟩
   ·exact⟨a,rfl,rfl⟩
end
section
open Go.RowKit
variable{y:OpD}{x d:Off}{m:Nat}{a name price b:Int}
theorem name_nat (h:zac y)(a:In y.kind 4 8):y.name=(((y.name - 1).toNat:Nat):Int)+1/\(y.name - 1).toNat<=1048576:=by
 have q:=h.2.2.1;unfold Qs at q;rw[Jf a] at q;unfold In at q
 omega
theorem spec_some {c d:List Value}{u:World}(t:Off.Short x 1048576)(q:OpD.Short y 1048576)(s:zac y->In y.kind 4 8->y.name=(m:Int)+1/\m<=1048576)(h1:Off.Is u c x)(h2:OpD.Is u d y) :
  Calls prog 8 #[.agg c.toArray,a,.agg d.toArray] u λe p=>zla (λ_=>Res x a y m) u.heap.size e p/\Below u.heap.size u p:=by
 obtain⟨j,o,g,l,f,k,rfl,w,q1,z,q2,A,C⟩:=h1;obtain⟨i,n,rfl,B,D⟩:=h2;refine(zmp x j g f i o l k n m a y u t w z A C.1 B D q.2 q.1 s).mono ?_;rintro e p ⟨h,r⟩;obtain⟨E,F,b,name,price,N,T,ok,hr,v⟩:=h.res;exact⟨⟨E,F,b,name,price,N,T,ok,hr,v⟩,r⟩
theorem impl_some {g:Int}{pe:Nat->Addr}{c d:List Value}{u:World}{B:Off}{f:Int}{N:Nat}{T:Nat->zcB}{ok:Bool}(H:Off.Short x 1048576)(A:OpD.Short y 1048576)(G:zac y->In y.kind 4 8->y.name=(m:Int)+1/\m<=1048576)
  (C:Zm u) (t:Zq u/\Zu u) (E:qY u pe) (F:u.cell? (0,0)=some (.iface 284 (.agg #[.pointer (some (12,92))]))) (hr:Res x g y m B f name price N T ok) (h1:Off.Is u c x) (h2:OpD.Is u d y) :
  Calls prog 11 #[.agg c.toArray,g,.agg d.toArray] u λe z=>zmO u.heap.size u.heap.size B f name price N T ok e z/\Below u.heap.size u z:=by
 have s:=h1;obtain⟨l,r,j,o,i,n,rfl,p1,q1,p2,q2,p3,q3⟩:=h1;obtain⟨k,p,rfl,K,L⟩:=h2;refine(zmn x l j i k r o n p m g y pe u H C t E F s K L A.1 A.2 (λa b=>(G a b).1)).mono ?_
 rintro e z ⟨⟨M,q,w,h,N',T',J,v,I⟩,D⟩;obtain⟨rfl,rfl,rfl,rfl,rfl,t,rfl⟩:=v.one hr;exact⟨I.rows t,D⟩
theorem zF.noBox {w:World}{base:Nat}{v1 v2 v3:Value}{d f j:Nat}{L C A B D E:Nat->Value}{g t:Nat}{cs:Array Value}(h:zF w base v1 v2 v3 d f j x L C A B D E)(a:w.heap[g]?=some (.cells cs t (0,0)))(k:140≠t/\223≠t/\231≠t/\145≠t/\220≠t/\228≠t/\234≠t/\150≠t/\3≠t):∀ b,OffB v1 v2 v3 d f j L C A B D E b->b≠g:=by
 obtain⟨l,m,n,o,p,q,r,s,u⟩:=k;rintro b ((e|⟨i,c,e|e⟩)|e|⟨i,c,e|e|e⟩|e|⟨i,c,e⟩)
 ·exact zQ h.sa.row a l b e
 ·exact zQ (h.sa.la i c) a m b e
 ·exact zQ (h.sa.ca i c) a n b e
 ·exact zQ h.ld.row a o b e
 ·exact zQ (h.ld.st i c) a p b e
 ·exact zQ (h.ld.ro i c) a q b e
 ·exact zQ (h.ld.se i c) a r b e
 ·exact zQ h.bk.row a s b e
 ·exact zQ (h.bk.legs i c) a u b e
theorem once {P G:Prop}(p:P)(h:P->G):G:=h p
theorem zhG.lds (h:zhG x b y m d a name price):d.ldn=x.ldn:=by
 rcases h with⟨_,rfl,_⟩|⟨_,_,rfl,_⟩|⟨hf,M,x3,f,e,h1,h2⟩
 ·rfl
 ·rfl
 ·by_cases c:a≠0∨y.kind=1
  ·rw[h1 c]
  ·rw[h2 c]
   rcases e with⟨_,rfl,_⟩|⟨_,rfl,_⟩|⟨_,_,rfl,_⟩|⟨_,h3,rfl,_⟩|⟨_,_,rfl,_⟩ <;> rfl
theorem res_short {e:Int}{N:Nat}{T:Nat->zcB}{ok:Bool}(g:Off.Short x 1048576)(j:OpD.Short y 1048576)(h:Res x e y m d b name price N T ok):(Off.Short d 1048576/\d.san<=1000/\d.ldn<=1000/\d.bkn<=1000)/\N<=1048576:=by
 rcases h with⟨⟨c,hf⟩,_,a,f⟩|⟨_,_,rfl,_,_,_,rfl⟩
 ·have h2:=a.short c g (by decide) j.1
  obtain⟨q1,q2,q3⟩:=a.few c;have t1:=c.1.1;have t2:=c.2.2.1;refine⟨⟨h2,by omega,?_,by omega⟩,?_⟩
  ·have:=a.lds;have:=c.2.1;omega
  ·rcases f with⟨rfl,_⟩|⟨_,_,rfl,_⟩
   ·omega
   ·have:=zmL (x.ld (zW x.sa (y.lg 0) x.san)) x.bk (y.lg 0) x.bkn
    omega
 ·exact⟨⟨⟨⟨Jq _,λi h=>absurd h (by show ¬ i<0;omega)⟩,⟨Jq _,λi h=>absurd h (by show ¬ i<0;omega)⟩,⟨Jq _,λi h=>absurd h (by show ¬ i<0;omega)⟩⟩,Jq _,Jq _,Jq _⟩,Jq _⟩
theorem lawDoOp (cs os:List Value)(x:Off)(y:OpD)(b3:Int)(pe:Nat->Addr)(w:World)(hs:Off.Short x 1000000000000000)(hi:Off.Is w cs x)(hr:OpD.Short y 1000000000000000)(hj:OpD.Is w os y)(hF:Zm w)(hT:Zq w/\Zu w)(he:qY w pe)(hg:w.cell? ⟨0,0,none⟩=some (.iface 284 (.agg #[.pointer (some ⟨12,92,none⟩)]))) :
  Calls prog 3 #[.agg cs.toArray,int i64 b3,.agg os.toArray] w λe w'=>e=.returned (.bool true)/\Below w.heap.size w w':=by
 have d8:=hI hi;have e0:=hI hj;obtain⟨S,X,Q,V,P,U,rfl,h1,s1,h2,s2,h3,s3⟩:=hi;obtain⟨R,W,rfl,g1,g2⟩:=hj;clear h1 s1 h2 s2 h3 s3 g1 g2;have HS:Hid (Off.Short x 1000000000000000/\OpD.Short y 1000000000000000):=⟨hs,hr⟩;have HG:Hid (Zm w/\(Zq w/\Zu w)/\qY w pe/\w.cell? ⟨0,0,none⟩=some (.iface 284 (.agg #[.pointer (some ⟨12,92,none⟩)]))):=⟨hF,hT,he,hg⟩;clear hs hr hF hT he hg;have HB:Below w.heap.size w ((w.alloc (.cells #[.slice S x.san X,.slice Q x.ldn V,.slice P x.bkn U] 26)).alloc (.cells #[int i64 y.kind,.string y.own,int i64 y.name,.slice R y.lgn W,int i64 y.pe,int i64 y.len,int i64 y.hei,int i64 y.cl,.bool y.all,int i64 y.be,int i64 y.unt,int i64 y.now] 31)):=zk (zk bZ _) _;have A:((w.alloc (.cells #[.slice S x.san X,.slice Q x.ldn V,.slice P x.bkn U] 26)).alloc (.cells #[int i64 y.kind,.string y.own,int i64 y.name,.slice R y.lgn W,int i64 y.pe,int i64 y.len,int i64 y.hei,int i64 y.cl,.bool y.all,int i64 y.be,int i64 y.unt,int i64 y.now] 31)).heap[w.heap.size]?=some (.cells #[.slice S x.san X,.slice Q x.ldn V,.slice P x.bkn U] 26 (0,0)):=zd (Jb w _) _;have B:((w.alloc (.cells #[.slice S x.san X,.slice Q x.ldn V,.slice P x.bkn U] 26)).alloc (.cells #[int i64 y.kind,.string y.own,int i64 y.name,.slice R y.lgn W,int i64 y.pe,int i64 y.len,int i64 y.hei,int i64 y.cl,.bool y.all,int i64 y.be,int i64 y.unt,int i64 y.now] 31)).heap[w.heap.size+1]?=some (.cells #[int i64 y.kind,.string y.own,int i64 y.name,.slice R y.lgn W,int i64 y.pe,int i64 y.len,int i64 y.hei,int i64 y.cl,.bool y.all,int i64 y.be,int i64 y.unt,int i64 y.now] 31 (0,0)):=by simpa using Jb (w.alloc (.cells #[.slice S x.san X,.slice Q x.ldn V,.slice P x.bkn U] 26)) (.cells #[int i64 y.kind,.string y.own,int i64 y.name,.slice R y.lgn W,int i64 y.pe,int i64 y.len,int i64 y.hei,int i64 y.cl,.bool y.all,int i64 y.be,int i64 y.unt,int i64 y.now] 31)
 have g5:=hI (zM B);go_enter func3,ntmps3;go_wp2_with fail;generalize ((w.alloc (.cells #[.slice S x.san X,.slice Q x.ldn V,.slice P x.bkn U] 26)).alloc (.cells #[int i64 y.kind,.string y.own,int i64 y.name,.slice R y.lgn W,int i64 y.pe,int i64 y.len,int i64 y.hei,int i64 y.cl,.bool y.all,int i64 y.be,int i64 y.unt,int i64 y.now] 31))=wA at HB A B g5 ⊢;refine(zjR [.slice S x.san X,.slice Q x.ldn V,.slice P x.bkn U] x _ HS.out.1 (d8.out.below HB)).mono ?_;rintro e w1 ⟨r,rfl,hr,f⟩;replace A:=zb A f;replace B:=zb B f;replace HB:=ze HB f;have k0:Hid (w.heap.size+1<w1.heap.size):=Nat.lt_of_lt_of_le g5.out f.size;clear f g5
 rcases hr with rfl|⟨r0,r1,ht⟩
 ·go_wp2
  go_ret;exact⟨rfl,HB⟩
 have d0:decide (r<0)=false:=by simpa using r0
 have HT:=hI ht;clear ht;obtain⟨q0,q1,q2,q3,q4,q5,q6,q7,q8,q9,f5,f6⟩:=zeW B;go_wp2_with fail;refine(szOp_any [int i64 y.kind,.string y.own,int i64 y.name,.slice R y.lgn W,int i64 y.pe,int i64 y.len,int i64 y.hei,int i64 y.cl,.bool y.all,int i64 y.be,int i64 y.unt,int i64 y.now] y r _ r0 r1 HS.out.2 (e0.out.below HB)).mono ?_;rintro e w2 ⟨r',rfl,hr,f⟩;clear q0 q1 q2 q3 q4 q5 q6 q7 q8 q9 f5 f6 d0 r0 r1;replace A:=zb A f;replace B:=zb B f;replace HB:=ze HB f;have k3:Hid (w.heap.size+1<w2.heap.size):=Nat.lt_of_lt_of_le k0.out f.size;clear f k0
 rcases hr with rfl|⟨r0,_,ht⟩
 ·go_wp2
  go_ret;exact⟨rfl,HB⟩
 have d0:decide (r'<0)=false:=by simpa using r0
 have HU:=hI ht;clear ht HS r0;obtain⟨pA,e9⟩:∃ p,p=w.heap.size:=⟨_,rfl⟩;obtain⟨H,f4⟩:∃ p,p=w.heap.size+1:=⟨_,rfl⟩;rw[← e9] at A;rw[← f4] at B;have HP:Hid (pA=w.heap.size/\H=w.heap.size+1):=⟨e9,f4⟩;obtain⟨m,hm⟩:∃ m,m=(y.name - 1).toNat:=⟨_,rfl⟩;have HM:Hid (zac y->In y.kind 4 8->y.name=(m:Int)+1/\m<=1048576):=by rw[hm];exact name_nat
 clear hm;have k6:Hid (∀ c d u,Off.Is u c x->OpD.Is u d y->Calls prog 8 #[.agg c.toArray,int i64 b3,.agg d.toArray] u λe u'=>zla (λ_=>Res x b3 y m) u.heap.size e u'/\Below u.heap.size u u'):=λc d u h1 h2=>spec_some HT.out HU.out HM.out h1 h2
 have HI:=hI (d8.out.below HB);have HJ:=hI (e0.out.below HB);rw[← f4,← e9];clear e9 f4;go_upto_region 8 with fail;go_cut [8,9,10] (λs8 s9 j6 wx=>∃ b8 b9 ok,s8=.pointer (some ⟨b8,0,none⟩)/\s9=.pointer (some ⟨b9,0,none⟩)/\j6=.bool ok/\Hid ((wx.heap[pA]?=some (.cells #[.slice S x.san X,.slice Q x.ldn V,.slice P x.bkn U] 26 (0,0))/\wx.heap[H]?=some (.cells #[int i64 y.kind,.string y.own,int i64 y.name,.slice R y.lgn W,int i64 y.pe,int i64 y.len,int i64 y.hei,int i64 y.cl,.bool y.all,int i64 y.be,int i64 y.unt,int i64 y.now] 31 (0,0)))/\DopB (λ_=>Res x b3 y m) w2.heap.size b8 b9 ok wx/\Below w2.heap.size w2 wx/\w2.heap.size<=b8/\w2.heap.size<=b9))
 case first =>
  have h4:Hid (RG w2 w2.drew pA H #[.slice S x.san X,.slice Q x.ldn V,.slice P x.bkn U] #[int i64 y.kind,.string y.own,int i64 y.name,.slice R y.lgn W,int i64 y.pe,int i64 y.len,int i64 y.hei,int i64 y.cl,.bool y.all,int i64 y.be,int i64 y.unt,int i64 y.now] x y (λ_=>Res x b3 y m) none none none none none):=⟨bZ.drew,zb A bZ.drew,zb B bZ.drew,λ_ e=>(by cases e),λ_ e=>(by cases e),λ_ e=>(by cases e),λ_ e=>(by cases e),λ_ e=>(by cases e)⟩
  clear A B HB;refine once ?_ (by
   intro e6;have g:=h4;refine qg 15 15 (λu=>u.cell? ⟨pA,0,none⟩=some (.slice S x.san X)/\u.cell? ⟨pA,1,none⟩=some (.slice Q x.ldn V)/\u.cell? ⟨pA,2,none⟩=some (.slice P x.bkn U)/\u.cell? ⟨H,0,none⟩=some (int i64 y.kind)/\u.cell? ⟨H,1,none⟩=some (.string y.own)/\u.cell? ⟨H,2,none⟩=some (int i64 y.name)/\u.cell? ⟨H,3,none⟩=some (.slice R y.lgn W)/\u.cell? ⟨H,4,none⟩=some (int i64 y.pe)/\u.cell? ⟨H,5,none⟩=some (int i64 y.len)/\u.cell? ⟨H,6,none⟩=some (int i64 y.hei)/\u.cell? ⟨H,7,none⟩=some (int i64 y.cl)/\u.cell? ⟨H,8,none⟩=some (.bool y.all)/\u.cell? ⟨H,9,none⟩=some (int i64 y.be)/\u.cell? ⟨H,10,none⟩=some (int i64 y.unt)/\u.cell? ⟨H,11,none⟩=some (int i64 y.now)) rfl (by kernel_rfl) (QK g.out.a g.out.b) (λhS=>?_)
   simp only[List.replicate_succ,List.replicate_zero];generalize w2.drew=u at g hS ⊢
   (refine tkN 0 (v:=?_) rfl (by kernel_rfl) (λ_ _ _ h=>h) rfl (by assumption) ?_ ?_;rotate_left;(focus(intro w' h;(try dsimp only at h);go_simp;try with_reducible rfl));simp only[Act.put,sB,sZ,sS])
   (refine tkN 2 (v:=?_) rfl (by kernel_rfl) (λ_ _ _ h=>h) rfl (by assumption) ?_ ?_;rotate_left;(focus(intro w' h;(try dsimp only at h);go_simp;try with_reducible rfl));simp only[Act.put,sB,sZ,sS])
   (refine tkN 3 (v:=?_) rfl (by kernel_rfl) (λ_ _ _ h=>h) rfl (by assumption) ?_ ?_;rotate_left;(focus(intro w' h;(try dsimp only at h);go_simp;try with_reducible rfl));simp only[Act.put,sB,sZ,sS])
   iterate 5
    all_goals
     first
      | (have t:RG _ _ _ _ _ _ _ _ _ none none none none none:=g.out;clear t;refine zj (rs:=[1,10,11]) (by kernel_rfl) (by simp) ?_;refine zc.consL rfl (λK i=>?_) (zc.consL rfl (λK i=>?_) (zc.consL rfl (λK i=>?_) zc.nil)))
      | (have t:RG _ _ _ _ _ _ _ _ _ none (some _) none none none:=g.out;clear t;refine zj (rs:=[1,10]) (by kernel_rfl) (by simp) ?_;refine zc.consL rfl (λK i=>?_) (zc.consL rfl (λK i=>?_) zc.nil))
      | (have t:RG _ _ _ _ _ _ _ _ _ (some _) none none none none:=g.out;clear t;refine zj (rs:=[1,11]) (by kernel_rfl) (by simp) ?_;refine zc.consL rfl (λK i=>?_) (zc.consL rfl (λK i=>?_) zc.nil))
      | (have t:RG _ _ _ _ _ _ _ _ _ (some _) (some _) none none none:=g.out;clear t;refine zj (rs:=[1]) (by kernel_rfl) (by simp) ?_;refine zc.consL rfl (λK i=>?_) zc.nil)
      | (have t:RG _ _ _ _ _ _ _ _ _ none none (some _) none none:=g.out;clear t;refine zj (rs:=[4,10,11]) (by kernel_rfl) (by simp) ?_;refine zc.consL rfl (λK i=>?_) (zc.consL rfl (λK i=>?_) (zc.consL rfl (λK i=>?_) zc.nil)))
      | (have t:RG _ _ _ _ _ _ _ _ _ none (some _) (some _) none none:=g.out;clear t;refine zj (rs:=[4,10]) (by kernel_rfl) (by simp) ?_;refine zc.consL rfl (λK i=>?_) (zc.consL rfl (λK i=>?_) zc.nil))
      | (have t:RG _ _ _ _ _ _ _ _ _ (some _) none (some _) none none:=g.out;clear t;refine zj (rs:=[4,11]) (by kernel_rfl) (by simp) ?_;refine zc.consL rfl (λK i=>?_) (zc.consL rfl (λK i=>?_) zc.nil))
      | (have t:RG _ _ _ _ _ _ _ _ _ (some _) (some _) (some _) none none:=g.out;clear t;refine zj (rs:=[4]) (by kernel_rfl) (by simp) ?_;refine zc.consL rfl (λK i=>?_) zc.nil)
      | (have t:RG _ _ _ _ _ _ _ _ _ none none (some _) (some _) none:=g.out;clear t;refine zj (rs:=[5,10,11]) (by kernel_rfl) (by simp) ?_;refine zc.consL rfl (λK i=>?_) (zc.consL rfl (λK i=>?_) (zc.consL rfl (λK i=>?_) zc.nil)))
      | (have t:RG _ _ _ _ _ _ _ _ _ none (some _) (some _) (some _) none:=g.out;clear t;refine zj (rs:=[5,10]) (by kernel_rfl) (by simp) ?_;refine zc.consL rfl (λK i=>?_) (zc.consL rfl (λK i=>?_) zc.nil))
      | (have t:RG _ _ _ _ _ _ _ _ _ (some _) none (some _) (some _) none:=g.out;clear t;refine zj (rs:=[5,11]) (by kernel_rfl) (by simp) ?_;refine zc.consL rfl (λK i=>?_) (zc.consL rfl (λK i=>?_) zc.nil))
      | (have t:RG _ _ _ _ _ _ _ _ _ (some _) (some _) (some _) (some _) none:=g.out;clear t;refine zj (rs:=[5]) (by kernel_rfl) (by simp) ?_;refine zc.consL rfl (λK i=>?_) zc.nil)
      | (have t:RG _ _ _ _ _ _ _ _ _ none none (some _) (some _) (some _):=g.out;clear t;refine zj (rs:=[10,11]) (by kernel_rfl) (by simp) ?_;refine zc.consL rfl (λK i=>?_) (zc.consL rfl (λK i=>?_) zc.nil))
      | (have t:RG _ _ _ _ _ _ _ _ _ none (some _) (some _) (some _) (some _):=g.out;clear t;refine zj (rs:=[10]) (by kernel_rfl) (by simp) ?_;refine zc.consL rfl (λK i=>?_) zc.nil)
      | (have t:RG _ _ _ _ _ _ _ _ _ (some _) none (some _) (some _) (some _):=g.out;clear t;refine zj (rs:=[11]) (by kernel_rfl) (by simp) ?_;refine zc.consL rfl (λK i=>?_) zc.nil)
    all_goals
     go_simp
     first
      | (go_at_call 9;refine Jm (g.out.off [.slice S x.san X,.slice Q x.ldn V,.slice P x.bkn U] HT.out HI.out) ?_;clear g;rintro e u ⟨k1,rfl,g⟩;dsimp only;refine i.out _ _ (QK g.out.a g.out.b) (λhS=>?_);clear i K;simp only[sZ,sS])
      | (go_at_call 10;refine Jm (g.out.op [int i64 y.kind,.string y.own,int i64 y.name,.slice R y.lgn W,int i64 y.pe,int i64 y.len,int i64 y.hei,int i64 y.cl,.bool y.all,int i64 y.be,int i64 y.unt,int i64 y.now] HU.out HJ.out) ?_;clear g;rintro e u ⟨k2,rfl,g⟩;dsimp only;refine i.out _ _ (QK g.out.a g.out.b) (λhS=>?_);clear i K;simp only[sZ,sS])
      | (go_at_call 8;refine Jm (g.out.dop 8 b3 (λc d u _ h1 h2=>k6.out c d u h1 h2)) ?_;clear g;rintro e u ⟨a1,n1,c1,a2,n2,c2,a3,n3,c3,F,name,price,ar,n,cr,ok,rfl,g⟩;dsimp only;refine i.out _ _ (QK g.out.a g.out.b) (λhS=>?_);clear i K;simp only[sZ,sS];(refine tkN 6 (v:=?_) rfl (by kernel_rfl) (λ_ _ _ h=>h) rfl (by assumption) ?_ ?_;rotate_left;(focus(intro w' h;(try dsimp only at h);go_simp;try with_reducible rfl));simp only[Act.put,sB,sZ,sS]);(refine tkN 7 (v:=?_) rfl (by kernel_rfl) (λ_ _ _ h=>h) rfl (by assumption) ?_ ?_;rotate_left;(focus(intro w' h;(try dsimp only at h);go_simp;try with_reducible rfl));simp only[Act.put,sB,sZ,sS]);(refine tkN 8 (v:=?_) rfl (by kernel_rfl) (λ_ _ _ h=>h) rfl (by assumption) ?_ ?_;rotate_left;(focus(intro w' h;(try dsimp only at h);go_simp;try with_reducible rfl));simp only[Act.put,sB,sZ,sS]);(refine tkN 9 (v:=?_) rfl (by kernel_rfl) (λ_ _ _ h=>h) rfl (by assumption) ?_ ?_;rotate_left;(focus(intro w' h;(try dsimp only at h);go_simp;try with_reducible rfl));simp only[Act.put,sB,sZ,sS]))
      | (replace g:Hid _:=g.out.al8;refine i.out _ _ (QK g.out.a g.out.b) (λhS=>?_);clear i K;simp only[sZ,sS];generalize u.heap.size=b8 at g ⊢;generalize u.alloc (.cells #[.slice none 0 0,.slice none 0 0,.slice none 0 0] 38)=u at g hS ⊢)
      | (replace g:Hid _:=g.out.al9;refine i.out _ _ (QK g.out.a g.out.b) (λhS=>?_);clear i K;simp only[sZ,sS];generalize u.heap.size=b9 at g ⊢;generalize u.alloc (.cells #[int i64 0,int i64 0,int i64 0,.slice none 0 0] 41)=u at g hS ⊢)
   all_goals (clear hS;revert g;revert ok;revert cr;revert n;revert ar;revert price;revert name;revert F;revert c3;revert n3;revert a3;revert c2;revert n2;revert a2;revert c1;revert n1;revert a1;revert k2;revert k1;revert b9;revert b8;revert u;exact e6))
  intro u b8 b9 k1 k2 a1 n1 c1 a2 n2 c2 a3 n3 c3 F name price ar n cr ok g;have HF:Hid _:=g.out.fin;obtain⟨q0,q1,q2⟩:=ce3 HF.out.1.1;obtain⟨f0,f1,f2⟩:=fe3 HF.out.1.1;have e4:=HF.out.1.2;have HA:=HF.out.2.1;have HC:Hid _:=HF.out.2.2;unfold qt at e4 HA;unfold ZK qt at HC;clear HF g;refine zj (rs:=[12]) (by kernel_rfl) (by simp) ?_
  refine zc.consL rfl (λK i=>?_) zc.nil
  go_simp;refine i.out _ _ (QK HA.1 HA.2) (λhS=>?_)
  clear i K HA q0 q1 q2 f0 f1 f2;simp only[sZ,sS];obtain⟨q0,q1,q2,q3⟩:=ce4 e4;obtain⟨f0,f1,f2,f3⟩:=fe4 e4;clear e4;refine zj (rs:=[13]) (by kernel_rfl) (by simp) ?_
  refine zc.consL rfl (λK i=>?_) zc.nil
  go_simp;refine i.out _ _ (QK HC.out.1.1 HC.out.1.2) (λhS=>?_)
  clear i K q0 q1 q2 q3 f0 f1 f2 f3;simp only[sZ,sS];refine zj (rs:=[14]) (by kernel_rfl) (by simp) ?_
  refine zc.consL rfl (λK i=>?_) zc.nil
  go_simp;refine i.out _ _ (QK HC.out.1.1 HC.out.1.2) (λhS=>?_)
  clear i K;simp only[sZ,sS];refine zX (by kernel_rfl) ?_ _
  go_wp2;go_meet;exact⟨b8,b9,ok,rfl,rfl,rfl,HC⟩
 case rest =>
  obtain⟨b8,b9,ok,rfl,rfl,rfl,HC⟩:=hcut;obtain⟨⟨A',B'⟩,⟨rb,D,F,name,price,N,T,e7,a1,c1,a2,c2,a3,c3,ar,cr,L,C,Aa,Bb,Dd,E,W8,W9,k7,k8⟩,f,l8,l9⟩:=HC.out;clear HC A B;have HA:Hid _:=A';have g7:Hid _:=B';have j9:=hI e7;have j8:Hid (∀ c d u,Below w.heap.size w u->Off.Is u c x->OpD.Is u d y->Calls prog 11 #[.agg c.toArray,int i64 b3,.agg d.toArray] u λe u'=>zmO u.heap.size u.heap.size D F name price N T ok e u'/\Below u.heap.size u u'):=λc d u q h1 h2=>impl_some HT.out HU.out HM.out (HG.out.1.below q) ⟨HG.out.2.1.1.below q,HG.out.2.1.2.below q⟩ (HG.out.2.2.1.below q) ((q.cell (p:=⟨0,0,none⟩) (Ja w _ HG.out.2.2.2)).trans HG.out.2.2.2) j9.out h1 h2
  have I:=hI (res_short HT.out HU.out e7);have m7:Hid (w.heap.size+1<w2.heap.size/\w2.heap.size<=wc.heap.size/\b8<wc.heap.size/\b9<wc.heap.size):=⟨k3.out,f.size,zM W8,zM W9⟩;have d5:Hid (Off.Is wc [.slice a1 D.san c1,.slice a2 D.ldn c2,.slice a3 D.bkn c3] D/\zbk wc ar N T):=⟨k7.is,zbI k8⟩;have h6:Hid _:=W8;have h7:Hid _:=W9;have b2:Hid _:=ze HB f;have z:Below wc.heap.size wc wc:=bZ;clear f k7 k8 e7 k6 HI HJ A' B' W8 W9 HB k3;obtain⟨q0,q1,q2⟩:=ce3 (zb HA.out z);go_wp2_with fail;refine(zdi [.slice S x.san X,.slice Q x.ldn V,.slice P x.bkn U] x _ HT.out (d8.out.below (ze b2.out z))).mono ?_;rintro e w4 ⟨m8,rfl,g3,f⟩;clear q0 q1 q2;replace z:=ze z f;have l0:=hI f.size;clear f;have f9:=hI g3;obtain⟨m1,m2,b0,l,c,a8,C',a7,E0,rfl,_,_,_,_⟩:=g3;unfold ZY;have IN:Off.In w4 wc.heap.size w4.heap.size [.slice (some ⟨b0,0,none⟩) x.san x.san,.slice (some ⟨a8,0,none⟩) x.ldn x.ldn,.slice (some ⟨a7,0,none⟩) x.bkn x.bkn] x:=f9.out;clear f9;have f:Below w4.heap.size w4 (w4.alloc (.cells #[.slice (some ⟨b0,0,none⟩) x.san x.san,.slice (some ⟨a8,0,none⟩) x.ldn x.ldn,.slice (some ⟨a7,0,none⟩) x.bkn x.bkn] 38)):=zk bZ _;have J:=Jb w4 (.cells #[.slice (some ⟨b0,0,none⟩) x.san x.san,.slice (some ⟨a8,0,none⟩) x.ldn x.ldn,.slice (some ⟨a7,0,none⟩) x.bkn x.bkn] 38);have k4:Hid (w4.heap.size<(w4.alloc (.cells #[.slice (some ⟨b0,0,none⟩) x.san x.san,.slice (some ⟨a8,0,none⟩) x.ldn x.ldn,.slice (some ⟨a7,0,none⟩) x.bkn x.bkn] 38)).heap.size):=by show w4.heap.size<(w4.alloc (.cells #[.slice (some ⟨b0,0,none⟩) x.san x.san,.slice (some ⟨a8,0,none⟩) x.ldn x.ldn,.slice (some ⟨a7,0,none⟩) x.bkn x.bkn] 38)).heap.size;simp
  replace z:=ze z f;replace IN:=IN.below f;clear f;obtain⟨q0,q1,q2,q3,q4,q5,q6,q7,q8,q9,f5,f6⟩:=zeW (zb g7.out z);go_wp2_with fail;generalize w4.alloc (.cells #[.slice (some ⟨b0,0,none⟩) x.san x.san,.slice (some ⟨a8,0,none⟩) x.ldn x.ldn,.slice (some ⟨a7,0,none⟩) x.bkn x.bkn] 38)=w5 at z IN J k4 q0 q1 q2 q3 q4 q5 q6 q7 q8 q9 f5 f6 ⊢;refine(ziu [int i64 y.kind,.string y.own,int i64 y.name,.slice R y.lgn W,int i64 y.pe,int i64 y.len,int i64 y.hei,int i64 y.cl,.bool y.all,int i64 y.be,int i64 y.unt,int i64 y.now] y _ HU.out (e0.out.below (ze b2.out z))).mono ?_;rintro e M ⟨m9,rfl,g4,f⟩;clear q0 q1 q2 q3 q4 q5 q6 q7 q8 q9 f5 f6;replace z:=ze z f;replace IN:=IN.below f;replace J:=zb J f;have l1:=hI f.size;clear f;have g0:=hI g4;obtain⟨a9,rfl,_⟩:=g4;unfold ZY;have JN:OpD.In M w5.heap.size M.heap.size [int i64 y.kind,.string y.own,int i64 y.name,.slice (some ⟨a9,0,none⟩) y.lgn y.lgn,int i64 y.pe,int i64 y.len,int i64 y.hei,int i64 y.cl,.bool y.all,int i64 y.be,int i64 y.unt,int i64 y.now] y:=g0.out;clear g0;have f:Below M.heap.size M (M.alloc (.cells #[int i64 y.kind,.string y.own,int i64 y.name,.slice (some ⟨a9,0,none⟩) y.lgn y.lgn,int i64 y.pe,int i64 y.len,int i64 y.hei,int i64 y.cl,.bool y.all,int i64 y.be,int i64 y.unt,int i64 y.now] 47)):=zk bZ _;have O:=Jb M (.cells #[int i64 y.kind,.string y.own,int i64 y.name,.slice (some ⟨a9,0,none⟩) y.lgn y.lgn,int i64 y.pe,int i64 y.len,int i64 y.hei,int i64 y.cl,.bool y.all,int i64 y.be,int i64 y.unt,int i64 y.now] 47);have k5:Hid (M.heap.size<(M.alloc (.cells #[int i64 y.kind,.string y.own,int i64 y.name,.slice (some ⟨a9,0,none⟩) y.lgn y.lgn,int i64 y.pe,int i64 y.len,int i64 y.hei,int i64 y.cl,.bool y.all,int i64 y.be,int i64 y.unt,int i64 y.now] 47)).heap.size):=by show M.heap.size<(M.alloc (.cells #[int i64 y.kind,.string y.own,int i64 y.name,.slice (some ⟨a9,0,none⟩) y.lgn y.lgn,int i64 y.pe,int i64 y.len,int i64 y.hei,int i64 y.cl,.bool y.all,int i64 y.be,int i64 y.unt,int i64 y.now] 47)).heap.size;simp
  replace z:=ze z f;replace IN:=IN.below f;replace J:=zb J f;replace JN:=JN.below f;clear f;obtain⟨q0,q1,q2⟩:=ce3 J;go_wp2_with fail;generalize M.alloc (.cells #[int i64 y.kind,.string y.own,int i64 y.name,.slice (some ⟨a9,0,none⟩) y.lgn y.lgn,int i64 y.pe,int i64 y.len,int i64 y.hei,int i64 y.cl,.bool y.all,int i64 y.be,int i64 y.unt,int i64 y.now] 47)=w7 at z IN J JN O k5 q0 q1 q2 ⊢;refine(j8.out [.slice (some ⟨b0,0,none⟩) x.san x.san,.slice (some ⟨a8,0,none⟩) x.ldn x.ldn,.slice (some ⟨a7,0,none⟩) x.bkn x.bkn] [int i64 y.kind,.string y.own,int i64 y.name,.slice (some ⟨a9,0,none⟩) y.lgn y.lgn,int i64 y.pe,int i64 y.len,int i64 y.hei,int i64 y.cl,.bool y.all,int i64 y.be,int i64 y.unt,int i64 y.now] _ (ze b2.out z) (IN.is HT.out) (JN.is HU.out)).mono ?_;rintro e w8 ⟨⟨d1,e1,d2,e2,d3,e3,dr,er,L2,C2,A2,B2,D2,E2,rfl,G,Y⟩,f⟩;clear q0 q1 q2;replace z:=ze z f;replace IN:=IN.below f;replace J:=zb J f;replace JN:=JN.below f;replace O:=zb O f;have l2:=hI f.size;clear f;have f:Below w8.heap.size w8 ((w8.alloc (.cells #[.slice d1 D.san e1,.slice d2 D.ldn e2,.slice d3 D.bkn e3] 38)).alloc (.cells #[int i64 F,int i64 name,int i64 price,.slice dr N er] 41)):=zk (zk bZ _) _;have j:((w8.alloc (.cells #[.slice d1 D.san e1,.slice d2 D.ldn e2,.slice d3 D.bkn e3] 38)).alloc (.cells #[int i64 F,int i64 name,int i64 price,.slice dr N er] 41)).heap[w8.heap.size]?=some (.cells #[.slice d1 D.san e1,.slice d2 D.ldn e2,.slice d3 D.bkn e3] 38 (0,0)):=zd (Jb w8 _) _;have s:((w8.alloc (.cells #[.slice d1 D.san e1,.slice d2 D.ldn e2,.slice d3 D.bkn e3] 38)).alloc (.cells #[int i64 F,int i64 name,int i64 price,.slice dr N er] 41)).heap[w8.heap.size+1]?=some (.cells #[int i64 F,int i64 name,int i64 price,.slice dr N er] 41 (0,0)):=by simpa using Jb (w8.alloc (.cells #[.slice d1 D.san e1,.slice d2 D.ldn e2,.slice d3 D.bkn e3] 38)) (.cells #[int i64 F,int i64 name,int i64 price,.slice dr N er] 41)
  replace z:=ze z f;replace IN:=IN.below f;replace J:=zb J f;replace JN:=JN.below f;replace O:=zb O f;replace G:=G.below f;replace Y:=zo f Y;clear f;have l6:(ok != ok)=false:=by simp
  obtain⟨i0,i1,i2⟩:=ce3 j;obtain⟨j0,j1,j2⟩:=ce3 (zb h6.out z);go_wp2_with fail;generalize ((w8.alloc (.cells #[.slice d1 D.san e1,.slice d2 D.ldn e2,.slice d3 D.bkn e3] 38)).alloc (.cells #[int i64 F,int i64 name,int i64 price,.slice dr N er] 41))=w9 at z IN J JN O G Y j s i0 i1 i2 j0 j1 j2 ⊢;refine(zbp [.slice d1 D.san e1,.slice d2 D.ldn e2,.slice d3 D.bkn e3] [.slice a1 D.san c1,.slice a2 D.ldn c2,.slice a3 D.bkn c3] D _ I.out.1.1 G.is (d5.out.1.below z)).mono ?_;rintro e n4 ⟨rfl,f⟩;clear i0 i1 i2 j0 j1 j2;replace z:=ze z f;replace IN:=IN.below f;replace J:=zb J f;replace JN:=JN.below f;replace O:=zb O f;replace G:=G.below f;replace Y:=zo f Y;replace j:=zb j f;replace s:=zb s f;clear f;obtain⟨i0,i1,i2,i3⟩:=ce4 s;obtain⟨j0,j1,j2,j3⟩:=ce4 (zb h7.out z);go_wp2_with fail;refine(zdH F name price dr N er T ar cr _ I.out.2 (zbI Y) (d5.out.2.below z)).mono ?_;rintro e b7 ⟨rfl,f⟩;clear i0 i1 i2 i3 j0 j1 j2 j3;replace z:=ze z f;replace IN:=IN.below f;replace J:=zb J f;replace JN:=JN.below f;replace O:=zb O f;replace G:=G.below f;replace Y:=zo f Y;replace j:=zb j f;replace s:=zb s f;clear f;go_upto_region 14 with fail;have KS:Hid (∀ w',Below b7.heap.size b7 w'->(w'.cell? ⟨pA,0,none⟩=some (.slice S x.san X)/\w'.cell? ⟨pA,1,none⟩=some (.slice Q x.ldn V)/\w'.cell? ⟨pA,2,none⟩=some (.slice P x.bkn U)/\w'.cell? ⟨w4.heap.size,0,none⟩=some (.slice (some ⟨b0,0,none⟩) x.san x.san)/\w'.cell? ⟨w4.heap.size,1,none⟩=some (.slice (some ⟨a8,0,none⟩) x.ldn x.ldn)/\w'.cell? ⟨w4.heap.size,2,none⟩=some (.slice (some ⟨a7,0,none⟩) x.bkn x.bkn))):=λw' h=>by
   have g1:=zb (zb HA.out z) h;have g2:=zb J h;exact⟨za g1 0 _ rfl,za g1 1 _ rfl,za g1 2 _ rfl,za g2 0 _ rfl,za g2 1 _ rfl,za g2 2 _ rfl⟩
  have BW:Hid (∀ w',Below b7.heap.size b7 w'->Below w.heap.size w w'):=λw' h=>ze (ze b2.out z) h
  have d9:Hid (∀ w',Below b7.heap.size b7 w'->Off.Is w' [.slice (some ⟨b0,0,none⟩) x.san x.san,.slice (some ⟨a8,0,none⟩) x.ldn x.ldn,.slice (some ⟨a7,0,none⟩) x.bkn x.bkn] x):=λw' h=>(IN.is HT.out).below h
  go_region_held3 (λw'=>w'.cell? ⟨pA,0,none⟩=some (.slice S x.san X)/\w'.cell? ⟨pA,1,none⟩=some (.slice Q x.ldn V)/\w'.cell? ⟨pA,2,none⟩=some (.slice P x.bkn U)/\w'.cell? ⟨w4.heap.size,0,none⟩=some (.slice (some ⟨b0,0,none⟩) x.san x.san)/\w'.cell? ⟨w4.heap.size,1,none⟩=some (.slice (some ⟨a8,0,none⟩) x.ldn x.ldn)/\w'.cell? ⟨w4.heap.size,2,none⟩=some (.slice (some ⟨a7,0,none⟩) x.bkn x.bkn))
   ((refine KS.out _ ?_;exact(by repeat(first|exact bZ|refine Jh ?_|refine ze ?_ a6|refine ze ?_ a5))))
   (first|(go_at_call 9;refine Jm (zdi [.slice S x.san X,.slice Q x.ldn V,.slice P x.bkn U] x _ HT.out (d8.out.below (BW.out _ (by repeat(first|exact bZ|refine Jh ?_|refine ze ?_ a6|refine ze ?_ a5))))) ?_;rintro e wt ⟨j4,rfl,b6,a5⟩)|(go_at_call 12;refine Jm (zbp [.slice (some ⟨b0,0,none⟩) x.san x.san,.slice (some ⟨a8,0,none⟩) x.ldn x.ldn,.slice (some ⟨a7,0,none⟩) x.bkn x.bkn] j4 x _ HT.out (d9.out _ (by repeat(first|exact bZ|refine Jh ?_|refine ze ?_ a6|refine ze ?_ a5))) ((b6.is HT.out).below (by repeat(first|exact bZ|refine Jh ?_|refine ze ?_ a6|refine ze ?_ a5)))) ?_;rintro e b5 ⟨rfl,a6⟩))
  have f:Below b7.heap.size b7 b5:=(by repeat(first|exact bZ|refine Jh ?_|refine ze ?_ a6|refine ze ?_ a5))
  clear b6 a5 a6 KS BW d9;replace z:=ze z f;replace IN:=IN.below f;replace J:=zb J f;replace JN:=JN.below f;replace O:=zb O f;replace G:=G.below f;replace Y:=zo f Y;replace j:=zb j f;replace s:=zb s f;clear f;go_upto_region 16 with fail;have KS:Hid (∀ w',Below b5.heap.size b5 w'->(w'.cell? ⟨H,0,none⟩=some (int i64 y.kind)/\w'.cell? ⟨H,1,none⟩=some (.string y.own)/\w'.cell? ⟨H,2,none⟩=some (int i64 y.name)/\w'.cell? ⟨H,3,none⟩=some (.slice R y.lgn W)/\w'.cell? ⟨H,4,none⟩=some (int i64 y.pe)/\w'.cell? ⟨H,5,none⟩=some (int i64 y.len)/\w'.cell? ⟨H,6,none⟩=some (int i64 y.hei)/\w'.cell? ⟨H,7,none⟩=some (int i64 y.cl)/\w'.cell? ⟨H,8,none⟩=some (.bool y.all)/\w'.cell? ⟨H,9,none⟩=some (int i64 y.be)/\w'.cell? ⟨H,10,none⟩=some (int i64 y.unt)/\w'.cell? ⟨H,11,none⟩=some (int i64 y.now)/\w'.cell? ⟨M.heap.size,0,none⟩=some (int i64 y.kind)/\w'.cell? ⟨M.heap.size,1,none⟩=some (.string y.own)/\w'.cell? ⟨M.heap.size,2,none⟩=some (int i64 y.name)/\w'.cell? ⟨M.heap.size,3,none⟩=some (.slice (some ⟨a9,0,none⟩) y.lgn y.lgn)/\w'.cell? ⟨M.heap.size,4,none⟩=some (int i64 y.pe)/\w'.cell? ⟨M.heap.size,5,none⟩=some (int i64 y.len)/\w'.cell? ⟨M.heap.size,6,none⟩=some (int i64 y.hei)/\w'.cell? ⟨M.heap.size,7,none⟩=some (int i64 y.cl)/\w'.cell? ⟨M.heap.size,8,none⟩=some (.bool y.all)/\w'.cell? ⟨M.heap.size,9,none⟩=some (int i64 y.be)/\w'.cell? ⟨M.heap.size,10,none⟩=some (int i64 y.unt)/\w'.cell? ⟨M.heap.size,11,none⟩=some (int i64 y.now))):=λw' h=>by
   have g1:=zb (zb g7.out z) h;have g2:=zb O h;exact⟨za g1 0 _ rfl,za g1 1 _ rfl,za g1 2 _ rfl,za g1 3 _ rfl,za g1 4 _ rfl,za g1 5 _ rfl,za g1 6 _ rfl,za g1 7 _ rfl,za g1 8 _ rfl,za g1 9 _ rfl,za g1 10 _ rfl,za g1 11 _ rfl,za g2 0 _ rfl,za g2 1 _ rfl,za g2 2 _ rfl,za g2 3 _ rfl,za g2 4 _ rfl,za g2 5 _ rfl,za g2 6 _ rfl,za g2 7 _ rfl,za g2 8 _ rfl,za g2 9 _ rfl,za g2 10 _ rfl,za g2 11 _ rfl⟩
  have BW:Hid (∀ w',Below b5.heap.size b5 w'->Below w.heap.size w w'):=λw' h=>ze (ze b2.out z) h
  have d9:Hid (∀ w',Below b5.heap.size b5 w'->OpD.Is w' [int i64 y.kind,.string y.own,int i64 y.name,.slice (some ⟨a9,0,none⟩) y.lgn y.lgn,int i64 y.pe,int i64 y.len,int i64 y.hei,int i64 y.cl,.bool y.all,int i64 y.be,int i64 y.unt,int i64 y.now] y):=λw' h=>(JN.is HU.out).below h
  go_region_held3 (λw'=>w'.cell? ⟨H,0,none⟩=some (int i64 y.kind)/\w'.cell? ⟨H,1,none⟩=some (.string y.own)/\w'.cell? ⟨H,2,none⟩=some (int i64 y.name)/\w'.cell? ⟨H,3,none⟩=some (.slice R y.lgn W)/\w'.cell? ⟨H,4,none⟩=some (int i64 y.pe)/\w'.cell? ⟨H,5,none⟩=some (int i64 y.len)/\w'.cell? ⟨H,6,none⟩=some (int i64 y.hei)/\w'.cell? ⟨H,7,none⟩=some (int i64 y.cl)/\w'.cell? ⟨H,8,none⟩=some (.bool y.all)/\w'.cell? ⟨H,9,none⟩=some (int i64 y.be)/\w'.cell? ⟨H,10,none⟩=some (int i64 y.unt)/\w'.cell? ⟨H,11,none⟩=some (int i64 y.now)/\w'.cell? ⟨M.heap.size,0,none⟩=some (int i64 y.kind)/\w'.cell? ⟨M.heap.size,1,none⟩=some (.string y.own)/\w'.cell? ⟨M.heap.size,2,none⟩=some (int i64 y.name)/\w'.cell? ⟨M.heap.size,3,none⟩=some (.slice (some ⟨a9,0,none⟩) y.lgn y.lgn)/\w'.cell? ⟨M.heap.size,4,none⟩=some (int i64 y.pe)/\w'.cell? ⟨M.heap.size,5,none⟩=some (int i64 y.len)/\w'.cell? ⟨M.heap.size,6,none⟩=some (int i64 y.hei)/\w'.cell? ⟨M.heap.size,7,none⟩=some (int i64 y.cl)/\w'.cell? ⟨M.heap.size,8,none⟩=some (.bool y.all)/\w'.cell? ⟨M.heap.size,9,none⟩=some (int i64 y.be)/\w'.cell? ⟨M.heap.size,10,none⟩=some (int i64 y.unt)/\w'.cell? ⟨M.heap.size,11,none⟩=some (int i64 y.now))
   ((refine KS.out _ ?_;exact(by repeat(first|exact bZ|refine Jh ?_|refine ze ?_ a6|refine ze ?_ a5))))
   (first|(go_at_call 10;refine Jm (ziu [int i64 y.kind,.string y.own,int i64 y.name,.slice R y.lgn W,int i64 y.pe,int i64 y.len,int i64 y.hei,int i64 y.cl,.bool y.all,int i64 y.be,int i64 y.unt,int i64 y.now] y _ HU.out (e0.out.below (BW.out _ (by repeat(first|exact bZ|refine Jh ?_|refine ze ?_ a6|refine ze ?_ a5))))) ?_;rintro e wt ⟨j4,rfl,b6,a5⟩)|(go_at_call 14;refine Jm (eqOp_same [int i64 y.kind,.string y.own,int i64 y.name,.slice (some ⟨a9,0,none⟩) y.lgn y.lgn,int i64 y.pe,int i64 y.len,int i64 y.hei,int i64 y.cl,.bool y.all,int i64 y.be,int i64 y.unt,int i64 y.now] j4 y _ HU.out (d9.out _ (by repeat(first|exact bZ|refine Jh ?_|refine ze ?_ a6|refine ze ?_ a5))) ((b6.is HU.out).below (by repeat(first|exact bZ|refine Jh ?_|refine ze ?_ a6|refine ze ?_ a5)))) ?_;rintro e k9 ⟨rfl,a6⟩))
  have f:Below b5.heap.size b5 k9:=(by repeat(first|exact bZ|refine Jh ?_|refine ze ?_ a6|refine ze ?_ a5))
  clear b6 a5 a6 KS BW d9;replace z:=ze z f;replace IN:=IN.below f;replace J:=zb J f;replace JN:=JN.below f;replace O:=zb O f;replace G:=G.below f;replace Y:=zo f Y;replace j:=zb j f;replace s:=zb s f;clear f;obtain⟨i0,i1,i2⟩:=ce3 J;go_wp2_with fail;refine(zjy [.slice (some ⟨b0,0,none⟩) x.san x.san,.slice (some ⟨a8,0,none⟩) x.ldn x.ldn,.slice (some ⟨a7,0,none⟩) x.bkn x.bkn] x wc.heap.size w4.heap.size k9 HT.out IN (by have:=zM J;omega)).mono ?_
  rintro e m3 ⟨⟨k,hk,rfl⟩,kp⟩;clear i0 i1 i2;have a4:Hid (wc.heap.size<=w4.heap.size/\w4.heap.size<w5.heap.size/\w5.heap.size<=M.heap.size/\M.heap.size<w7.heap.size/\w7.heap.size<=w8.heap.size):=⟨l0.out,k4.out,l1.out,k5.out,l2.out⟩;have Z:Hid (∀ b,(wc.heap.size<=b/\b<w4.heap.size)->wc.heap.size<=b/\b<w4.heap.size):=λb h=>h
  replace z:=zx.below z z.size kp (λb e=>(Z.out _ e).1)
  replace JN:=JN.kept kp (λb e=>by have:=Z.out _ e;have:=a4.out;omega)
  replace O:=kp.blk O (λe=>by have:=Z.out _ e;have:=a4.out;omega)
  replace j:=kp.blk j (λe=>by have:=Z.out _ e;have:=a4.out;omega)
  replace s:=kp.blk s (λe=>by have:=Z.out _ e;have:=a4.out;omega)
  replace G:=G.keep kp (λb q e=>by have:=Z.out _ e;have:=(G.blk b q).1;have:=a4.out;omega)
  replace Y:=kp.own Y (λb q e=>by have:=Z.out _ e;have:=(Y.lt b q).1;have:=a4.out;omega)
  clear kp IN J Z;obtain⟨i0,i1,i2,i3,i4,i5,i6,i7,i8,i9,l7,m0⟩:=zeW O;go_wp2_with fail;refine(zlh [int i64 y.kind,.string y.own,int i64 y.name,.slice (some ⟨a9,0,none⟩) y.lgn y.lgn,int i64 y.pe,int i64 y.len,int i64 y.hei,int i64 y.cl,.bool y.all,int i64 y.be,int i64 y.unt,int i64 y.now] y w5.heap.size M.heap.size k m3 HU.out JN (by omega)).mono ?_
  rintro e n5 ⟨rfl,kp⟩;clear i0 i1 i2 i3 i4 i5 i6 i7 i8 i9 l7 m0;have Z:Hid (∀ b,(w5.heap.size<=b/\b<M.heap.size)->w5.heap.size<=b/\b<M.heap.size):=λb h=>h
  replace z:=zx.below z z.size kp (λb e=>by have:=Z.out _ e;have:=a4.out;omega)
  replace j:=kp.blk j (λe=>by have:=Z.out _ e;have:=a4.out;omega)
  replace s:=kp.blk s (λe=>by have:=Z.out _ e;have:=a4.out;omega)
  replace G:=G.keep kp (λb q e=>by have:=Z.out _ e;have:=(G.blk b q).1;have:=a4.out;omega)
  replace Y:=kp.own Y (λb q e=>by have:=Z.out _ e;have:=(Y.lt b q).1;have:=a4.out;omega)
  clear kp JN O Z;have dk:decide ((k:Int)+(y.lgn:Int)<0)=false:=Jc (by omega)
  obtain⟨i0,i1,i2⟩:=ce3 j;obtain⟨j0,j1,j2⟩:=ce3 (zb h6.out z);go_wp2_with fail;refine(zbp [.slice d1 D.san e1,.slice d2 D.ldn e2,.slice d3 D.bkn e3] [.slice a1 D.san c1,.slice a2 D.ldn c2,.slice a3 D.bkn c3] D _ I.out.1.1 G.is (d5.out.1.below z)).mono ?_;rintro e n6 ⟨rfl,f⟩;clear i0 i1 i2 j0 j1 j2;replace z:=ze z f;replace G:=G.below f;replace Y:=zo f Y;replace j:=zb j f;replace s:=zb s f;clear f;obtain⟨i0,i1,i2,i3⟩:=ce4 s;obtain⟨j0,j1,j2,j3⟩:=ce4 (zb h7.out z);go_wp2_with fail;refine(zdH F name price dr N er T ar cr _ I.out.2 (zbI Y) (d5.out.2.below z)).mono ?_;rintro e m4 ⟨rfl,f⟩;clear i0 i1 i2 i3 j0 j1 j2 j3;replace z:=ze z f;replace G:=G.below f;replace Y:=zo f Y;replace j:=zb j f;replace s:=zb s f;clear f;obtain⟨i0,i1,i2⟩:=ce3 j;go_wp2_with fail;have d6:Hid (∀ b,OffB (.slice d1 D.san e1) (.slice d2 D.ldn e2) (.slice d3 D.bkn e3) D.san D.ldn D.bkn L2 C2 A2 B2 D2 E2 b->wc.heap.size<=b/\b≠w8.heap.size/\b≠w8.heap.size+1/\(Value.slice dr N er).ownBlock≠some b):=λb e=>⟨by have:=(G.blk b e).1;have:=a4.out;omega,G.noBox j (by decide) b e,G.noBox s (by decide) b e,G.noRow Y (by decide) b e⟩
  refine(zhs D d1 d2 d3 e1 e2 e3 w7.heap.size L2 C2 A2 B2 D2 E2 m4 I.out.1.2.1 I.out.1.2.2.1 I.out.1.2.2.2 I.out.1.1 G).mono ?_;rintro e m5 ⟨rfl,GM,kp⟩;clear i0 i1 i2;replace z:=zx.below z z.size kp (λb e=>(d6.out b e).1)
  replace j:=kp.blk j (λe=>(d6.out _ e).2.1 rfl)
  replace s:=kp.blk s (λe=>(d6.out _ e).2.2.1 rfl)
  replace Y:=kp.own Y (λb q e=>(d6.out _ e).2.2.2 q)
  clear kp G;have h0:=hI ((kO_le I.out.1.2.1 I.out.1.2.2.1 I.out.1.2.2.2 I.out.1.1).2.2);obtain⟨i0,i1,i2,i3⟩:=ce4 s;go_wp2_with fail;have e8:Hid (∀ b,(Value.slice dr N er).ownBlock=some b->wc.heap.size<=b/\b≠w8.heap.size/\b≠w8.heap.size+1):=λb e=>⟨by have:=(Y.lt b e).1;have:=a4.out;omega,zQ Y j (by decide) b e,zQ Y s (by decide) b e⟩
  refine(zhJ F name price dr N er w7.heap.size ((kO D:Nat):Int) T m5 (by have:=I.out.2;omega) (by omega) (by have:=h0.out;omega) Y).mono ?_
  rintro e f7 ⟨rfl,j7,kp⟩;clear i0 i1 i2 i3;replace z:=zx.below z z.size kp (λb e=>(e8.out b e).1)
  replace j:=kp.blk j (λe=>(e8.out _ e).2.1 rfl)
  replace s:=kp.blk s (λe=>(e8.out _ e).2.2 rfl)
  replace GM:=GM.keep kp (λb q e=>(d6.out b q).2.2.2 e)
  have RM:zbk f7 dr N (Qp (kO D)):=by have:=zbI j7;simpa using this
  clear kp Y j7 d6 e8;have l3:decide (((kO D:Nat):Int)<0)=false:=Jc (by omega)
  have l4:decide (((kO D:Nat):Int)+5*(N:Int)<0)=false:=Jc (by omega)
  have l5:(((kO D:Nat):Int)+5*(N:Int) != ((kO D:Nat):Int)+5*(N:Int))=false:=by simp
  have SM:qB f7 d1 D.san (mO D).sa/\ZG f7 d2 D.ldn (mO D).ld/\qO f7 d3 D.bkn (mO D).bk:=⟨GM.sa.at,GM.ld.at,GM.bk.at⟩;clear GM;obtain⟨i0,i1,i2⟩:=ce3 j;go_wp2_with fail;refine(zdF D d1 d2 d3 e1 e2 e3 _ I.out.1.2.1 I.out.1.2.2.1 I.out.1.2.2.2 I.out.1.1 SM).mono ?_;rintro e n7 ⟨rfl,f⟩;clear i0 i1 i2;replace z:=ze z f;replace SM:=a0.intro (SM.1.below f) (a0.intro (SM.2.1.below f) (SM.2.2.below f));replace RM:=RM.below f;replace j:=zb j f;replace s:=zb s f;clear f;obtain⟨i0,i1,i2,i3⟩:=ce4 s;go_wp2_with fail;refine(zei F name price dr N er (kO D) _ (by have:=I.out.2;omega) (by have:=h0.out;omega) RM).mono ?_
  rintro e b1 ⟨rfl,f⟩;clear i0 i1 i2 i3;replace z:=ze z f;replace SM:=a0.intro (SM.1.below f) (a0.intro (SM.2.1.below f) (SM.2.2.below f));replace RM:=RM.below f;replace j:=zb j f;replace s:=zb s f;clear f;go_upto_region 35 with fail;have HI:=hI (d8.out.below (ze b2.out z));have HJ:=hI (e0.out.below (ze b2.out z));have f8:Hid (∀ c d u,Below b1.heap.size b1 u->Off.Is u c x->OpD.Is u d y->Calls prog 11 #[.agg c.toArray,int i64 b3,.agg d.toArray] u λe u'=>zla (λ_ a c n p N' T' o=>D=a/\F=c/\name=n/\price=p/\N=N'/\T=T'/\ok=o) u.heap.size e u'/\Below u.heap.size u u'):=λc d u q h1 h2=>(j8.out c d u (ze (ze b2.out z) q) h1 h2).mono λe u' h=>⟨⟨_,D,F,name,price,N,T,ok,⟨rfl,rfl,rfl,rfl,rfl,rfl,rfl⟩,h.1⟩,h.2⟩
  have HX:Hid (b1.heap[w8.heap.size]?=some (.cells #[.slice d1 D.san e1,.slice d2 D.ldn e2,.slice d3 D.bkn e3] 38 (0,0))/\b1.heap[w8.heap.size+1]?=some (.cells #[int i64 F,int i64 name,int i64 price,.slice dr N er] 41 (0,0))):=⟨j,s⟩;have e5:=hI SM;have h5:=hI RM;have g6:=hI z;have hA:=(zb HA.out z);have j5:=(zb g7.out z);clear j s SM RM z;go_cut [19,20,21] (λs8 s9 j6 wx=>∃ g8 g9 d4,s8=.pointer (some ⟨g8,0,none⟩)/\s9=.pointer (some ⟨g9,0,none⟩)/\j6=.bool d4/\Hid ((wx.heap[pA]?=some (.cells #[.slice S x.san X,.slice Q x.ldn V,.slice P x.bkn U] 26 (0,0))/\wx.heap[H]?=some (.cells #[int i64 y.kind,.string y.own,int i64 y.name,.slice R y.lgn W,int i64 y.pe,int i64 y.len,int i64 y.hei,int i64 y.cl,.bool y.all,int i64 y.be,int i64 y.unt,int i64 y.now] 31 (0,0)))/\DopB (λ_ a c n p N' T' o=>D=a/\F=c/\name=n/\price=p/\N=N'/\T=T'/\ok=o) b1.heap.size g8 g9 d4 wx/\Below b1.heap.size b1 wx/\b1.heap.size<=g8/\b1.heap.size<=g9))
  case first =>
   have h4:Hid (RG b1 b1.drew pA H #[.slice S x.san X,.slice Q x.ldn V,.slice P x.bkn U] #[int i64 y.kind,.string y.own,int i64 y.name,.slice R y.lgn W,int i64 y.pe,int i64 y.len,int i64 y.hei,int i64 y.cl,.bool y.all,int i64 y.be,int i64 y.unt,int i64 y.now] x y (λ_ a c n p N' T' o=>D=a/\F=c/\name=n/\price=p/\N=N'/\T=T'/\ok=o) none none none none none):=⟨bZ.drew,zb hA bZ.drew,zb j5 bZ.drew,λ_ e=>(by cases e),λ_ e=>(by cases e),λ_ e=>(by cases e),λ_ e=>(by cases e),λ_ e=>(by cases e)⟩
   clear hA j5 HX e5 h5 g6 dk l3 l4 l5 l6 d0;refine once ?_ (by
    intro e6;have g:=h4;refine qg 15 15 (λu=>u.cell? ⟨pA,0,none⟩=some (.slice S x.san X)/\u.cell? ⟨pA,1,none⟩=some (.slice Q x.ldn V)/\u.cell? ⟨pA,2,none⟩=some (.slice P x.bkn U)/\u.cell? ⟨H,0,none⟩=some (int i64 y.kind)/\u.cell? ⟨H,1,none⟩=some (.string y.own)/\u.cell? ⟨H,2,none⟩=some (int i64 y.name)/\u.cell? ⟨H,3,none⟩=some (.slice R y.lgn W)/\u.cell? ⟨H,4,none⟩=some (int i64 y.pe)/\u.cell? ⟨H,5,none⟩=some (int i64 y.len)/\u.cell? ⟨H,6,none⟩=some (int i64 y.hei)/\u.cell? ⟨H,7,none⟩=some (int i64 y.cl)/\u.cell? ⟨H,8,none⟩=some (.bool y.all)/\u.cell? ⟨H,9,none⟩=some (int i64 y.be)/\u.cell? ⟨H,10,none⟩=some (int i64 y.unt)/\u.cell? ⟨H,11,none⟩=some (int i64 y.now)) rfl (by kernel_rfl) (QK g.out.a g.out.b) (λhS=>?_)
    simp only[List.replicate_succ,List.replicate_zero];generalize b1.drew=u at g hS ⊢
    (refine tkN 0 (v:=?_) rfl (by kernel_rfl) (λ_ _ _ h=>h) rfl (by assumption) ?_ ?_;rotate_left;(focus(intro w' h;(try dsimp only at h);go_simp;try with_reducible rfl));simp only[Act.put,sB,sZ,sS])
    (refine tkN 2 (v:=?_) rfl (by kernel_rfl) (λ_ _ _ h=>h) rfl (by assumption) ?_ ?_;rotate_left;(focus(intro w' h;(try dsimp only at h);go_simp;try with_reducible rfl));simp only[Act.put,sB,sZ,sS])
    (refine tkN 3 (v:=?_) rfl (by kernel_rfl) (λ_ _ _ h=>h) rfl (by assumption) ?_ ?_;rotate_left;(focus(intro w' h;(try dsimp only at h);go_simp;try with_reducible rfl));simp only[Act.put,sB,sZ,sS])
    iterate 5
     all_goals
      first
       | (have t:RG _ _ _ _ _ _ _ _ _ none none none none none:=g.out;clear t;refine zj (rs:=[1,10,11]) (by kernel_rfl) (by simp) ?_;refine zc.consL rfl (λK i=>?_) (zc.consL rfl (λK i=>?_) (zc.consL rfl (λK i=>?_) zc.nil)))
       | (have t:RG _ _ _ _ _ _ _ _ _ none (some _) none none none:=g.out;clear t;refine zj (rs:=[1,10]) (by kernel_rfl) (by simp) ?_;refine zc.consL rfl (λK i=>?_) (zc.consL rfl (λK i=>?_) zc.nil))
       | (have t:RG _ _ _ _ _ _ _ _ _ (some _) none none none none:=g.out;clear t;refine zj (rs:=[1,11]) (by kernel_rfl) (by simp) ?_;refine zc.consL rfl (λK i=>?_) (zc.consL rfl (λK i=>?_) zc.nil))
       | (have t:RG _ _ _ _ _ _ _ _ _ (some _) (some _) none none none:=g.out;clear t;refine zj (rs:=[1]) (by kernel_rfl) (by simp) ?_;refine zc.consL rfl (λK i=>?_) zc.nil)
       | (have t:RG _ _ _ _ _ _ _ _ _ none none (some _) none none:=g.out;clear t;refine zj (rs:=[4,10,11]) (by kernel_rfl) (by simp) ?_;refine zc.consL rfl (λK i=>?_) (zc.consL rfl (λK i=>?_) (zc.consL rfl (λK i=>?_) zc.nil)))
       | (have t:RG _ _ _ _ _ _ _ _ _ none (some _) (some _) none none:=g.out;clear t;refine zj (rs:=[4,10]) (by kernel_rfl) (by simp) ?_;refine zc.consL rfl (λK i=>?_) (zc.consL rfl (λK i=>?_) zc.nil))
       | (have t:RG _ _ _ _ _ _ _ _ _ (some _) none (some _) none none:=g.out;clear t;refine zj (rs:=[4,11]) (by kernel_rfl) (by simp) ?_;refine zc.consL rfl (λK i=>?_) (zc.consL rfl (λK i=>?_) zc.nil))
       | (have t:RG _ _ _ _ _ _ _ _ _ (some _) (some _) (some _) none none:=g.out;clear t;refine zj (rs:=[4]) (by kernel_rfl) (by simp) ?_;refine zc.consL rfl (λK i=>?_) zc.nil)
       | (have t:RG _ _ _ _ _ _ _ _ _ none none (some _) (some _) none:=g.out;clear t;refine zj (rs:=[5,10,11]) (by kernel_rfl) (by simp) ?_;refine zc.consL rfl (λK i=>?_) (zc.consL rfl (λK i=>?_) (zc.consL rfl (λK i=>?_) zc.nil)))
       | (have t:RG _ _ _ _ _ _ _ _ _ none (some _) (some _) (some _) none:=g.out;clear t;refine zj (rs:=[5,10]) (by kernel_rfl) (by simp) ?_;refine zc.consL rfl (λK i=>?_) (zc.consL rfl (λK i=>?_) zc.nil))
       | (have t:RG _ _ _ _ _ _ _ _ _ (some _) none (some _) (some _) none:=g.out;clear t;refine zj (rs:=[5,11]) (by kernel_rfl) (by simp) ?_;refine zc.consL rfl (λK i=>?_) (zc.consL rfl (λK i=>?_) zc.nil))
       | (have t:RG _ _ _ _ _ _ _ _ _ (some _) (some _) (some _) (some _) none:=g.out;clear t;refine zj (rs:=[5]) (by kernel_rfl) (by simp) ?_;refine zc.consL rfl (λK i=>?_) zc.nil)
       | (have t:RG _ _ _ _ _ _ _ _ _ none none (some _) (some _) (some _):=g.out;clear t;refine zj (rs:=[10,11]) (by kernel_rfl) (by simp) ?_;refine zc.consL rfl (λK i=>?_) (zc.consL rfl (λK i=>?_) zc.nil))
       | (have t:RG _ _ _ _ _ _ _ _ _ none (some _) (some _) (some _) (some _):=g.out;clear t;refine zj (rs:=[10]) (by kernel_rfl) (by simp) ?_;refine zc.consL rfl (λK i=>?_) zc.nil)
       | (have t:RG _ _ _ _ _ _ _ _ _ (some _) none (some _) (some _) (some _):=g.out;clear t;refine zj (rs:=[11]) (by kernel_rfl) (by simp) ?_;refine zc.consL rfl (λK i=>?_) zc.nil)
     all_goals
      go_simp
      first
       | (go_at_call 9;refine Jm (g.out.off [.slice S x.san X,.slice Q x.ldn V,.slice P x.bkn U] HT.out HI.out) ?_;clear g;rintro e u ⟨k1,rfl,g⟩;dsimp only;refine i.out _ _ (QK g.out.a g.out.b) (λhS=>?_);clear i K;simp only[sZ,sS])
       | (go_at_call 10;refine Jm (g.out.op [int i64 y.kind,.string y.own,int i64 y.name,.slice R y.lgn W,int i64 y.pe,int i64 y.len,int i64 y.hei,int i64 y.cl,.bool y.all,int i64 y.be,int i64 y.unt,int i64 y.now] HU.out HJ.out) ?_;clear g;rintro e u ⟨k2,rfl,g⟩;dsimp only;refine i.out _ _ (QK g.out.a g.out.b) (λhS=>?_);clear i K;simp only[sZ,sS])
       | (go_at_call 11;refine Jm (g.out.dop 11 b3 (λc d u q h1 h2=>f8.out c d u q h1 h2)) ?_;clear g;rintro e u ⟨f1,n1,h1,f2,n2,h2,f3,n3,h3,c0,c9,b4,fr,n,hr,d4,rfl,g⟩;dsimp only;refine i.out _ _ (QK g.out.a g.out.b) (λhS=>?_);clear i K;simp only[sZ,sS];(refine tkN 6 (v:=?_) rfl (by kernel_rfl) (λ_ _ _ h=>h) rfl (by assumption) ?_ ?_;rotate_left;(focus(intro w' h;(try dsimp only at h);go_simp;try with_reducible rfl));simp only[Act.put,sB,sZ,sS]);(refine tkN 7 (v:=?_) rfl (by kernel_rfl) (λ_ _ _ h=>h) rfl (by assumption) ?_ ?_;rotate_left;(focus(intro w' h;(try dsimp only at h);go_simp;try with_reducible rfl));simp only[Act.put,sB,sZ,sS]);(refine tkN 8 (v:=?_) rfl (by kernel_rfl) (λ_ _ _ h=>h) rfl (by assumption) ?_ ?_;rotate_left;(focus(intro w' h;(try dsimp only at h);go_simp;try with_reducible rfl));simp only[Act.put,sB,sZ,sS]);(refine tkN 9 (v:=?_) rfl (by kernel_rfl) (λ_ _ _ h=>h) rfl (by assumption) ?_ ?_;rotate_left;(focus(intro w' h;(try dsimp only at h);go_simp;try with_reducible rfl));simp only[Act.put,sB,sZ,sS]))
       | (replace g:Hid _:=g.out.al8;refine i.out _ _ (QK g.out.a g.out.b) (λhS=>?_);clear i K;simp only[sZ,sS];generalize u.heap.size=b8 at g ⊢;generalize u.alloc (.cells #[.slice none 0 0,.slice none 0 0,.slice none 0 0] 38)=u at g hS ⊢)
       | (replace g:Hid _:=g.out.al9;refine i.out _ _ (QK g.out.a g.out.b) (λhS=>?_);clear i K;simp only[sZ,sS];generalize u.heap.size=b9 at g ⊢;generalize u.alloc (.cells #[int i64 0,int i64 0,int i64 0,.slice none 0 0] 41)=u at g hS ⊢)
    all_goals (clear hS;revert g;revert d4;revert hr;revert n;revert fr;revert b4;revert c9;revert c0;revert h3;revert n3;revert f3;revert h2;revert n2;revert f2;revert h1;revert n1;revert f1;revert k2;revert k1;revert b9;revert b8;revert u;exact e6))
   intro u b8 b9 k1 k2 f1 n1 h1 f2 n2 h2 f3 n3 h3 c0 c9 b4 fr n hr d4 g;have HF:Hid _:=g.out.fin;obtain⟨q0,q1,q2⟩:=ce3 HF.out.1.1;obtain⟨f0,f1,f2⟩:=fe3 HF.out.1.1;have e4:=HF.out.1.2;have HA:=HF.out.2.1;have HC:Hid _:=HF.out.2.2;unfold qt at e4 HA;unfold ZK qt at HC;clear HF g;refine zj (rs:=[12]) (by kernel_rfl) (by simp) ?_
   refine zc.consL rfl (λK i=>?_) zc.nil
   go_simp;refine i.out _ _ (QK HA.1 HA.2) (λhS=>?_)
   clear i K HA q0 q1 q2 f0 f1 f2;simp only[sZ,sS];obtain⟨q0,q1,q2,q3⟩:=ce4 e4;obtain⟨f0,f1,f2,f3⟩:=fe4 e4;clear e4;refine zj (rs:=[13]) (by kernel_rfl) (by simp) ?_
   refine zc.consL rfl (λK i=>?_) zc.nil
   go_simp;refine i.out _ _ (QK HC.out.1.1 HC.out.1.2) (λhS=>?_)
   clear i K q0 q1 q2 q3 f0 f1 f2 f3;simp only[sZ,sS];refine zj (rs:=[14]) (by kernel_rfl) (by simp) ?_
   refine zc.consL rfl (λK i=>?_) zc.nil
   go_simp;refine i.out _ _ (QK HC.out.1.1 HC.out.1.2) (λhS=>?_)
   clear i K;simp only[sZ,sS];refine zX (by kernel_rfl) ?_ _
   go_wp2;go_meet;exact⟨b8,b9,d4,rfl,rfl,rfl,HC⟩
  case rest =>
  obtain⟨g8,g9,d4,rfl,rfl,rfl,HC⟩:=hcut;obtain⟨_,⟨n0,o2,c0,c9,b4,N',T',⟨rfl,rfl,rfl,rfl,rfl,rfl,rfl⟩,f1,h1,f2,h2,f3,h3,fr,hr,L3,C3,A3,m6,D3,E3,V8,V9,ho,d7⟩,f,_,_⟩:=HC.out;have z:=ze g6.out f;have j:=zb HX.out.1 f;have s:=zb HX.out.2 f;have SM:=a0.intro (e5.out.1.below f) (a0.intro (e5.out.2.1.below f) (e5.out.2.2.below f));have RM:=h5.out.below f;clear HC f HX e5 h5 g6 hA j5 HI HJ f8;obtain⟨i0,i1,i2⟩:=ce3 V8;obtain⟨j0,j1,j2⟩:=ce3 (zb h6.out z);go_wp2_with fail;refine(zbp [.slice f1 D.san h1,.slice f2 D.ldn h2,.slice f3 D.bkn h3] [.slice a1 D.san c1,.slice a2 D.ldn c2,.slice a3 D.bkn c3] D _ I.out.1.1 ho.is (d5.out.1.below z)).mono ?_;rintro e n8 ⟨rfl,f⟩;clear i0 i1 i2 j0 j1 j2;replace z:=ze z f;replace SM:=a0.intro (SM.1.below f) (a0.intro (SM.2.1.below f) (SM.2.2.below f));replace RM:=RM.below f;replace j:=zb j f;replace s:=zb s f;replace ho:=ho.below f;replace d7:=zo f d7;replace V8:=zb V8 f;replace V9:=zb V9 f;clear f;obtain⟨i0,i1,i2,i3⟩:=ce4 V9;obtain⟨j0,j1,j2,j3⟩:=ce4 (zb h7.out z);go_wp2_with fail;refine(zdH F name price fr N hr T ar cr _ I.out.2 (zbI d7) (d5.out.2.below z)).mono ?_;rintro e n9 ⟨rfl,f⟩;clear i0 i1 i2 i3 j0 j1 j2 j3;replace z:=ze z f;replace SM:=a0.intro (SM.1.below f) (a0.intro (SM.2.1.below f) (SM.2.2.below f));replace RM:=RM.below f;replace j:=zb j f;replace s:=zb s f;replace ho:=ho.below f;replace d7:=zo f d7;replace V8:=zb V8 f;replace V9:=zb V9 f;clear f;clear V8 V9 ho d7;obtain⟨i0,i1,i2⟩:=ce3 j;go_wp2_with fail;refine(zdF D d1 d2 d3 e1 e2 e3 _ I.out.1.2.1 I.out.1.2.2.1 I.out.1.2.2.2 I.out.1.1 SM).mono ?_;rintro e o0 ⟨rfl,f⟩;clear i0 i1 i2;replace z:=ze z f;replace SM:=a0.intro (SM.1.below f) (a0.intro (SM.2.1.below f) (SM.2.2.below f));replace RM:=RM.below f;replace j:=zb j f;replace s:=zb s f;clear f;obtain⟨i0,i1,i2,i3⟩:=ce4 s;go_wp2_with fail;refine(zei F name price dr N er (kO D) _ (by have:=I.out.2;omega) (by have:=h0.out;omega) RM).mono ?_
  rintro e o1 ⟨rfl,f⟩;clear i0 i1 i2 i3;replace z:=ze z f;replace SM:=a0.intro (SM.1.below f) (a0.intro (SM.2.1.below f) (SM.2.2.below f));replace RM:=RM.below f;replace j:=zb j f;replace s:=zb s f;clear f;go_wp2;go_ret;exact⟨rfl,ze b2.out z⟩
end
end Go.Proofs.YtmdnjgihooflfaaGreatDoor

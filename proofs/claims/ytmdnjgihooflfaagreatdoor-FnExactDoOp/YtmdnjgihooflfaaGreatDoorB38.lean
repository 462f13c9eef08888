/-
  OWN TEXT: LMRowE, KitAnswer, MarkMRm, MarkMRow, MarkAn0, EqAnsI, PlainOs.
-/
import Derived.Test.YtmdnjgihooflfaaGreatDoorRows
import Derived.Deep.RegionHeld3
import Derived.Test.YtmdnjgihooflfaaGreatDoorB37
namespace Go.Proofs.YtmdnjgihooflfaaGreatDoor
open Go.RowKit
open Go.Value (int)
open Go.IntKind (i64)
open Tryz
set_option maxHeartbeats 64000000
set_option maxRecDepth 100000
theorem zof (a:Int)(b:ByteArray)(c:Int)(d:Int)(f:Int)(w:World) :
  Calls prog 126 #[.agg #[a,b,c,d,f],.agg #[a,b,c,d,f]] w λe w'=>e=.returned (.bool true)/\Below w.heap.size w w':=by
 go_enter func126,ntmps126;go_wp2;go_ret;exact⟨rfl,zk (zk bZ _) _⟩
/-- eqRowS at two lists that are one. -/
theorem zmv (q bo:Option Addr)(n c1 c2:Nat)(S:Nat->zcB)(w:World)(hn:n<=2097152)(D:zbk w q n S)(E:zbk w bo n S) :
  Calls prog 60 #[(q,n,c1),(bo,n,c2)] w λe w'=>e=.returned (.bool true)/\Below w.heap.size w w':=by
 go_enter func60,ntmps60;go_wp2;go_loopw [5] (λi wr=>∃ k,k<=n/\i=int i64 k/\Below w.heap.size w wr) (λi _=>n - (intOf i).toNat)
 case atStart=>exact⟨0,Jq _,rfl,bZ⟩
 case round =>
  obtain⟨k,hk,rfl,a⟩:=hrel
  by_cases hlt:k<n
  ·obtain⟨b,off,rfl,o,h1,h2,h3,C⟩:=D k (by omega)
   obtain⟨j,f,rfl,m,y,z,A,B⟩:=E k (by omega)
   have l:=Ja w _ o;have g:=Ja w _ m;have r:=(a.cell l).trans o;have s:=(a.cell g).trans m;have c1:=(a.cell (p:=⟨b,_+1,_⟩) l).trans h1;have t:=(a.cell (p:=⟨j,_+1,_⟩) g).trans y;have c2:=(a.cell (p:=⟨b,_+2,_⟩) l).trans h2;have u:=(a.cell (p:=⟨j,_+2,_⟩) g).trans z;have c3:=(a.cell (p:=⟨b,_+3,_⟩) l).trans h3;have v:=(a.cell (p:=⟨j,_+3,_⟩) g).trans A;have c4:=(a.cell (p:=⟨b,_+4,_⟩) l).trans C;have x:=(a.cell (p:=⟨j,_+4,_⟩) g).trans B;clear o m h1 y h2 z h3 A C B;have h:b<wr.heap.size:=Nat.lt_of_lt_of_le l a.size;have d:j<wr.heap.size:=Nat.lt_of_lt_of_le g a.size;have i1:(0:Int)<=(k:Int):=by omega
   have i2:(k:Int)<(n:Int):=by omega
   go_wp2;go_region_held3 (λw'=>w'.cell? (b,off+k*5)=some (S k).name/\w'.cell? (b,off+k*5+1)=some (S k).own/\w'.cell? (b,off+k*5+2)=some (S k).pe/\w'.cell? (b,off+k*5+3)=some (S k).ln/\w'.cell? (b,off+k*5+4)=some (S k).cab/\w'.cell? (j,f+k*5)=some (S k).name/\w'.cell? (j,f+k*5+1)=some (S k).own/\w'.cell? (j,f+k*5+2)=some (S k).pe/\w'.cell? (j,f+k*5+3)=some (S k).ln/\w'.cell? (j,f+k*5+4)=some (S k).cab)
    (first|exact⟨r,c1,c2,c3,c4,s,t,u,v,x⟩|exact⟨(c.cell h).trans r,(c.cell h).trans c1,(c.cell h).trans c2,(c.cell h).trans c3,(c.cell h).trans c4,(c.cell d).trans s,(c.cell d).trans t,(c.cell d).trans u,(c.cell d).trans v,(c.cell d).trans x⟩)
    (first|(go_at_call 126;refine(zof _ _ _ _ _ _).mono ?_;rintro e w2 ⟨rfl,c⟩))
   go_wp2;go_roundw
   case rel=>exact⟨k+1,by omega,by go_num,ze a.drew c⟩
   case measure=>simp[intOf];omega
  ·go_wp2
   go_ret;exact⟨rfl,a⟩
section
open Go.RowKit
end
theorem zfM (z:Int)(w:World)(a:0<=z)(hk:z<=1000000000000000) :
  Calls prog 71 #[z] w λe w'=>e=.returned (zbl z.toNat)/\Below w.heap.size w w':=by
 obtain⟨q,rfl⟩:=Int.eq_ofNat_of_zero_le a;exact zho q w (by omega)
def Qp (k0:Nat)(i:Nat):zcB:=⟨(k0:Int)+5*i,zbl (k0+5*i+1),(k0:Int)+5*i+2,(k0:Int)+5*i+3,(k0:Int)+5*i+4⟩
theorem zli (o:Option Addr)(n c base k0:Nat)(S:Nat->zcB)(w:World)(hn:n<=2097152)(h1:k0<=100000000000000)(M:w.ownsRow base 203 5 (o,n,c) n (qW S n)) :
  Calls prog 65 #[.slice o n c,int i64 k0] w λe w'=>e=.returned (int i64 ((k0+5*n:Nat):Int))/\w'.ownsRow base 203 5 (.slice o n c) n (qW (Qp k0) n)/\zx w w' (λb=>(Value.slice o n c).ownBlock=some b):=by
 go_enter func65,ntmps65;go_wp2;go_loopw [1,5] (λq i wr=>∃ (t k:Nat),t<=n/\i=int i64 t/\q=int i64 k/\k=k0+5*t/\wr.ownsRow base 203 5 (o,n,c) n ((List.range (n*5)).map (QX (λi=>if i<t then Qp k0 i else S i)))/\zx w wr (λb=>(Value.slice o n c).ownBlock=some b)) (λ_ i _=>n - (intOf i).toNat)
 case atStart=>exact⟨0,k0,Jq _,rfl,rfl,by omega,by simpa [qW] using M,zx.refl _ _⟩
 case round =>
  obtain⟨t,k,ht,rfl,rfl,p,f,x⟩:=hrel;have l:=hI p;have kb:k<=200000000000000:=by omega
  clear p
  by_cases hlt:t<n
  ·obtain⟨g,rfl,J,K⟩:=qh f (by omega)
   obtain⟨v0,s⟩:∃ v,_=some v:=⟨_,zs f (t*5) (by omega) rfl⟩
   have u:=f.frozenAt (t*5);go_wp2_with fail;refine(zfM _ _ (by omega) (by omega)).mono ?_
   rintro e w2 ⟨rfl,m⟩;have d:=zo m (zL f _ _);have y:=(x.set (a:=⟨g,t*5,_⟩) rfl _).trans (zx.of_below m);clear s u m f x;obtain⟨v1,B⟩:∃ v,_=some v:=⟨_,zs d (t*5+1) (by omega) rfl⟩
   have F:=d.frozenAt (t*5+1);obtain⟨v2,C⟩:∃ v,_=some v:=⟨_,zs d (t*5+2) (by omega) rfl⟩
   have G:=d.frozenAt (t*5+2);obtain⟨v3,D⟩:∃ v,_=some v:=⟨_,zs d (t*5+3) (by omega) rfl⟩
   have H:=d.frozenAt (t*5+3);obtain⟨v4,E⟩:∃ v,_=some v:=⟨_,zs d (t*5+4) (by omega) rfl⟩
   have I:=d.frozenAt (t*5+4);have r:((k:Int)+1).toNat=k0+5*t+1:=by have:=l.out;omega
   rw[r];clear r;go_wp2;go_roundw
   case rel =>
    refine⟨t+1,k+5,by omega,by go_num,by go_num,by have:=l.out;omega,qR (zL (zL (zL (zL d _ _) _ _) _ _) _ _) (λj hj=>?_),((((y.set (a:=⟨g,_+1,_⟩) rfl _).set (a:=⟨g,_+2,_⟩) rfl _).set (a:=⟨g,_+3,_⟩) rfl _).set (a:=⟨g,_+4,_⟩) rfl _)⟩
    have e0:(k:Int)=(k0:Int)+5*t:=by have:=l.out;omega
    have A:∀ (S'),(∀ i,i≠t->S' i=(if i<t then Qp k0 i else S i))->(S' t=Qp k0 t)->QX S' j=QX (λi=>if i<t+1 then Qp k0 i else S i) j:=by
     intro S' h1 h2;unfold QX;have:S' (j / 5)=(if j / 5<t+1 then Qp k0 (j / 5) else S (j / 5)):=by
      by_cases e:j / 5=t
      ·rw[e,h2,Jf (by omega)]
      ·rw[h1 _ e]
       by_cases e2:j / 5<t
       ·rw[Jf e2,Jf (by omega)]
       ·rw[Je e2,Je (by omega)]
     rw[this]
    rw[← A (λi=>if i=t then Qp k0 t else _) (λi h=>Je h) (Jf rfl)]
    by_cases h4:j=t*5+4
    ·subst h4;rw[Jf rfl,zhd,Jf rfl];simp[Qp];try omega
    rw[Je h4]
    by_cases h3:j=t*5+3
    ·subst h3;rw[Jf rfl,zhc,Jf rfl];simp[Qp];try omega
    rw[Je h3]
    by_cases h2:j=t*5+2
    ·subst h2;rw[Jf rfl,zhb,Jf rfl];simp[Qp];try omega
    rw[Je h2]
    by_cases h1:j=t*5+1
    ·subst h1;rw[Jf rfl,zha,Jf rfl];simp[Qp];try omega
    rw[Je h1]
    by_cases h0:j=t*5
    ·subst h0;rw[Jf rfl,zgZ,Jf rfl];simp[Qp];try omega
    rw[Je h0];have z:j / 5≠t:=by omega
    unfold QX;simp only[Je z]
   case measure=>simp[intOf];omega
  ·obtain rfl:t=n:=by omega
   go_wp2;go_ret;refine⟨by rw[l.out];rfl,?_,x⟩
   rw[zcX (S':=λi=>if i<t then _ else S i) (λi L=>(Jf L).symm)]
   exact f
theorem zlj (v:Option Addr)(n c k0:Nat)(w:World)(hn:n<=2097152)(h1:k0<=100000000000000)(z:zbk w v n (Qp k0)) :
  Calls prog 69 #[.slice v n c,int i64 k0] w λe w'=>e=.returned (int i64 ((k0+5*n:Nat):Int))/\Below w.heap.size w w':=by
 have A:=hI z;clear z;go_enter func69,ntmps69;go_wp2;go_loopw [1,5] (λq i wr=>∃ (t k:Nat),t<=n/\i=int i64 t/\q=int i64 k/\k=k0+5*t/\Below w.heap.size w wr) (λ_ i _=>n - (intOf i).toNat)
 case atStart=>exact⟨0,k0,Jq _,rfl,rfl,by omega,bZ⟩
 case round =>
  obtain⟨t,k,ht,rfl,rfl,o,a⟩:=hrel;have d:=hI o;have kb:k<=200000000000000:=by omega
  clear o
  by_cases hlt:t<n
  ·obtain⟨b,off,rfl,f,c1,c2,c3,c4⟩:=A t hlt
   simp only[Qp] at f c1 c2 c3 c4;have x:(k0:Int)+5*t=(k:Int):=by have:=d.out;omega
   have y:k0+5*t+1=((k:Int)+1).toNat:=by have:=d;omega
   rw[x] at f c2 c3 c4;rw[y] at c1;have j:=Ja w _ f;have i1:(0:Int)<=(t:Int):=by omega
   have i2:(t:Int)<(n:Int):=by omega
   obtain⟨s,g⟩:∃ s,s=zbl ((k:Int)+1).toNat:=⟨_,rfl⟩;rw[← g] at c1;have u:=hI g;have r:Hid (∀ w',Below _ w w'->_/\_/\_/\_/\_):=λw' h =>
    ⟨(h.cell j).trans f,(h.cell (p:=⟨b,_+1,_⟩) j).trans c1,(h.cell (p:=⟨b,_+2,_⟩) j).trans c2,(h.cell (p:=⟨b,_+3,_⟩) j).trans c3,(h.cell (p:=⟨b,_+4,_⟩) j).trans c4⟩
   clear f c1 c2 c3 c4 x y g;obtain⟨f,c1,_,_,_⟩:=r wr a;go_wp2;clear f;go_region_held3 (λw'=>w'.cell? (b,off+t*5+1)=some (.string s))
    ((first|exact c1|exact(r _ (ze a.drew l)).2.1))
    (first|(go_at_call 71;refine(zfM _ _ (by omega) (by omega)).mono ?_;rintro e B ⟨rfl,l⟩;rw[← u.out]))
   all_goals
    have m:=ze a.drew l;obtain⟨_,_,c2,c3,c4⟩:=r B m;have f2:(((k:Int)+2) != (k:Int)+1+1)=false:=by simp;omega
    have f3:(((k:Int)+3) != (k:Int)+1+1+1)=false:=by simp;omega
    have f4:(((k:Int)+4) != (k:Int)+1+1+1+1)=false:=by simp;omega
    go_wp2;go_roundw
    case rel=>exact⟨t+1,k+5,by omega,by go_num,by go_num,by have:=d.out;omega,m⟩
    case measure=>simp[intOf];omega
  ·obtain rfl:t=n:=by omega
   go_wp2;go_ret;exact⟨by rw[d.out];rfl,a⟩
theorem zhJ (d a price:Int)(f:Option Addr)(n c base:Nat)(z:Int)(T:Nat->zcB)(w:World)(o:n<=2097152)(m:0<=z)(h1:z<=100000000000000)(k:w.ownsRow base 203 5 (f,n,c) n (qW T n)) :
  Calls prog 17 #[.agg #[d,a,price,(f,n,c)],z] w λe w'=>e=.returned (int i64 (z+5*n))/\w'.ownsRow base 203 5 (f,n,c) n (qW (Qp z.toNat) n)/\zx w w' (λb=>(Value.slice f n c).ownBlock=some b):=by
 obtain⟨q,rfl⟩:=Int.eq_ofNat_of_zero_le m;have j:=Jb w (.cells #[d,a,price,(f,n,c)] 41);have g:=zoS j;have x3:=za j 3 _ rfl;have l:=hI k;clear k;go_enter func17,ntmps17;go_wp2_with fail;refine(zli f n c _ q T _ o (by omega) (zo g l)).mono ?_
 rintro e w2 ⟨rfl,i,h⟩;go_wp2;go_ret;exact⟨by simp,i,(zx.of_below g).trans h⟩
theorem zei (b a price:Int)(f:Option Addr)(n c k0:Nat)(w:World)(h:n<=2097152)(h1:k0<=100000000000000)(i:zbk w f n (Qp k0)) :
  Calls prog 19 #[.agg #[int i64 b,int i64 a,int i64 price,.slice f n c],int i64 k0] w λe w'=>e=.returned (int i64 ((k0:Int)+5*n))/\Below w.heap.size w w':=by
 have d:Below _ w (w.alloc (.cells #[b,a,price,(f,n,c)] 41)):=zk bZ _;have e0:decide ((k0:Int)+5*(n:Int)<0)=false:=by simp;omega
 go_enter func19,ntmps19;go_wp2_with fail;refine(zlj f n c k0 _ h h1 (i.below d)).mono ?_;rintro e w1 ⟨rfl,g⟩;go_wp2;go_ret;exact⟨rfl,ze d g⟩
theorem zdH (c:Int)(b:Int)(price:Int)(f:Option Addr)(a j:Nat)(rw:Nat->zcB)(d:Option Addr)(h:Nat)(w:World)(p:a<=1048576)(n:zbk w f a rw)(k:zbk w d a rw) :
  Calls prog 13 #[.agg #[c,b,price,(f,a,j)],.agg #[c,b,price,(d,a,h)]] w λe w'=>e=.returned (.bool true)/\Below w.heap.size w w':=by
 have i:Below _ w ((w.alloc (.cells #[c,b,price,(f,a,j)] 41)).alloc (.cells #[c,b,price,(d,a,h)] 41)):=zk (zk bZ _) _;have l:=zoQ i;have m:=zoR i;go_enter func13,ntmps13;go_wp2_with fail;generalize (w.alloc _).alloc _=v at i l m ⊢;refine(zmv f _ a j _ rw _ (by omega) (n.below i) (k.below i)).mono ?_
 rintro e v0 ⟨rfl,g⟩;have A1:=zb l g;have B1:=zb m g;have o:=ze i g;clear l m i g;go_wp2;go_ret;exact⟨rfl,o⟩
section
open Go.RowKit
variable{x:Off}{B m:Nat}{y:OpD}{name price:Int}
theorem zmw {M:Nat->zY}{n:Nat}(hB:60<=B)(hn:n=x.san)(h:∀ i,i<x.san->qm (x.sa i) (M i)):ZA n M B:=λi hi=>by
 have g:=h i (by omega)
 exact⟨by have:=((QO _ _ _).1 g.1).2.1;show _<=_;omega,by have:=g.2.1.2.1;show _<=_;omega,by have:=g.2.2.2.1;show _<=_;omega⟩
theorem zfu.short {d:Int}{g:Off}{a:Int}(h:zfu x d y m g a name price)(l:Off.Short x B)(hB:60<=B)(f:y.own.size<=B)(hl:y.lgn<=3):Off.Short g B:=by
 obtain⟨h1,h2,h3⟩:=l
 rcases h with⟨_,rfl,_⟩|⟨_,rfl,_⟩|⟨_,_,rfl,_⟩|⟨_,j,rfl,_⟩|⟨_,k,rfl,_⟩
 ·exact⟨h1,h2,h3⟩
 ·exact⟨h1,h2,h3⟩
 ·exact⟨h1,h2,h3⟩
 ·refine⟨h1,h2,by show x.bkn+1<=B;omega,λi e=>?_⟩
  by_cases c:i=x.bkn
  ·show ql.Short (zah _ _ _ i) B
   rw[c,ZL];exact⟨f,by show y.lgn<=B;omega⟩
  ·show ql.Short (zah _ _ _ i) B
   rw[zaf _ _ _ c];exact h3.2 i (by have:i<x.bkn+1:=e;omega)
 ·refine⟨h1,h2,h3.1,λi e=>?_⟩
  show ql.Short (zah _ m _ i) B
  by_cases c:i=m
  ·rw[c,ZL]
   have b:=h3.2 m k;unfold qx
   split
   ·exact b
   ·split
    ·exact⟨b.1,by show y.lgn<=B;omega⟩
    ·split
     ·exact b
     ·split
      ·exact⟨f,b.2⟩
      ·exact b
  ·rw[zaf _ _ _ c]
   exact h3.2 i e
theorem zhG.short {d:Int}{g:Off}{a:Int}(h:zhG x d y m g a name price)(i:Zk x)(b:Off.Short x B)(f:60<=B)(l:y.own.size<=B):Off.Short g B:=by
 rcases h with⟨_,rfl,_⟩|⟨_,_,rfl,_⟩|⟨k,M,x3,e,j,h1,h2⟩
 ·exact b
 ·exact b
 ·by_cases c:a≠0∨y.kind=1
  ·rw[h1 c];exact b
  ·rw[h2 c]
   exact j.short ⟨b.1,⟨b.2.1.1,zmw f i.2.1 e.good⟩,b.2.2⟩ f l (zjg k.1).2
theorem zhG.few {e:Int}{d:Off}{b:Int}(h:zhG x e y m d b name price)(f:Zk x):d.bkn<=30/\d.san=x.san/\d.sa=x.sa:=by
 have a:=f.2.2.1
 rcases h with⟨_,rfl,_⟩|⟨_,_,rfl,_⟩|⟨hf,M,x3,i,g,h1,h2⟩
 ·exact⟨a,rfl,rfl⟩
 ·exact⟨a,rfl,rfl⟩
 ·by_cases c:b≠0∨y.kind=1
  ·rw[h1 c];exact⟨a,rfl,rfl⟩
  ·rw[h2 c]
   rcases g with⟨_,rfl,_⟩|⟨_,rfl,_⟩|⟨_,_,rfl,_⟩|⟨_,h3,rfl,_⟩|⟨_,_,rfl,_⟩
   ·exact⟨a,rfl,rfl⟩
   ·exact⟨a,rfl,rfl⟩
   ·exact⟨a,rfl,rfl⟩
   ·exact⟨by have h3:x.bkn<30:=h3;show x.bkn+1<=30;omega,rfl,rfl⟩
   ·exact⟨a,rfl,rfl⟩
end
end Go.Proofs.YtmdnjgihooflfaaGreatDoor

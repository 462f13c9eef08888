import Derived.Test.YtgmdnkngnhkgbaaGreatB16
namespace Go.Proofs.YtgmdnkngnhkgbaaGreat
open Go.RowKit
open Go.Value (int)
open Go.IntKind (i64)
set_option maxHeartbeats 64000000
set_option maxRecDepth 1000000
theorem zdH {S S':Nat->qW}(k i:Nat)(h:∀ j,j<i->S' j=S j):zeU S' k i=zeU S k i:=by
 induction i with
 | zero=>rfl
 | succ i ih =>
  unfold zeU;rw[ih (fun j hj=>h j (by omega)),h i (by omega)]
theorem zdI {p:zP}{S S':Nat->qW}(i:Nat)(h:∀ j,j<i->S' j=S j):Zy p S' i=Zy p S i:=by
 funext k
 unfold Zy;rw[zdH k i h]
theorem zcI {F a:Nat->Int}{n:Nat}{x:Int}(h:∀ j,j<n->a j=F j):Has a n x↔Has F n x :=
 ⟨fun ⟨j,hj,e⟩=>⟨j,hj,by rw[← h j hj];exact e⟩,fun ⟨j,hj,e⟩=>⟨j,hj,by rw[h j hj];exact e⟩⟩
theorem zfe {S T:Nat->qW}{n i:Nat}(h:i<n):Qp S n T i=S i:=if_pos h
theorem cat_n {S:Nat->qW}{n:Nat}{s:qW}:Qp S n (fun _=>s) n=s:=if_neg (by omega)
theorem zgJ {p:zP}{n:Nat}{S:Nat->qW}{x len hei:Int}{k:Nat}(h:Places p n S x len hei k) :
  zaf p (n+1) (Qp S n (fun _=>⟨x,(k:Int),len,hei⟩))/\Has (Zb (Qp S n (fun _=>⟨x,(k:Int),len,hei⟩))) (n+1) x/\ZC (Zb (Qp S n (fun _=>⟨x,(k:Int),len,hei⟩))) x (n+1)=n:=by
 obtain⟨l,hn,o,q,r,s,hk,⟨t,u⟩,_⟩:=h;have m:∀ j,j<n->Zb (Qp S n (fun _=>⟨x,(k:Int),len,hei⟩)) j=Zb S j:=fun j d=>by unfold Zb;rw[zfe d]
 have g:Zb (Qp S n (fun _=>⟨x,(k:Int),len,hei⟩)) n=x:=by unfold Zb;rw[cat_n]
 refine⟨⟨l.1,by have:=l.2.1;omega,fun i hi=>?_⟩,⟨n,Nat.lt_succ_self _,g⟩,zbJ (Nat.lt_succ_self _) g (fun j d=>by rw[m j d];exact fun e=>o ⟨j,d,e⟩)⟩
 by_cases e:i=n
 ·subst e
  rw[cat_n,zdI i (fun j d=>zfe d)]
  refine⟨fun c=>o ((zcI m).1 c),q,r,s,⟨by show(0:Int)<=(k:Int);omega,by show(k:Int)<=_;omega⟩,t,u⟩
 ·have f:i<n:=by omega
  rw[zfe f,zdI i (fun j d=>zfe (by omega))]
  obtain⟨a,b⟩:=l.2.2 i f;exact⟨fun c=>a ((zcI (fun j d=>m j (by omega))).1 c),b⟩
def ZN {α:Type}(S:Nat->α)(r:Nat)(i:Nat):α:=if i<r then S i else S (i+1)
theorem ZW {α:Type}{S:Nat->α}{r i:Nat}(h:i<r):ZN S r i=S i:=if_pos h
theorem Qu {α:Type}{S:Nat->α}{r i:Nat}(h:r<=i):ZN S r i=S (i+1):=if_neg (by omega)
theorem zfV {F:Nat->Int}{r i:Nat}{x:Int}(h:Has (ZN F r) i x):Has F (i+1) x:=by
 obtain⟨j,hj,e⟩:=h
 by_cases c:j<r
 ·exact⟨j,by omega,by rw[← e,ZW c]⟩
 ·exact⟨j+1,by omega,by rw[← e,Qu (by omega)]⟩
theorem zdJ {F:Nat->Int}{r i:Nat}{x:Int}(hi:i<=r)(h:Has (ZN F r) i x):Has F i x:=by
 obtain⟨j,a,e⟩:=h;exact⟨j,a,by rw[← e,ZW (by omega)]⟩
theorem zcK {F:Nat->Int}{n r:Nat}{x:Int}(hr:r<=n)(b:F r≠x):Has (ZN F r) n x↔Has F (n+1) x:=by
 refine⟨zfV,?_⟩;rintro⟨j,hj,e⟩
 by_cases c:j<r
 ·exact⟨j,by omega,by rw[← e,ZW c]⟩
 ·have a:j≠r:=fun q=>b (by rw[← q];exact e)
  exact⟨j - 1,by omega,by rw[← e,Qu (by omega),show j - 1+1=j by omega]⟩
theorem zeg (S:Nat->qH)(r:Nat):Zh (ZN S r)=ZN (Zh S) r:=by
 funext i
 unfold Zh ZN
 split <;> rfl
theorem zeh (S:Nat->Qo)(r:Nat):ZG (ZN S r)=ZN (ZG S) r:=by
 funext i
 unfold ZG ZN
 split <;> rfl
theorem zfW {S S':Nat->qH}(k i:Nat)(h:∀ j,j<i->S' j=S j):Zz S' k i=Zz S k i:=by
 induction i with
 | zero=>rfl
 | succ i ih =>
  unfold Zz;rw[ih (fun j hj=>h j (by omega)),h i (by omega)]
theorem usedR_out (S:Nat->qH)(r k i:Nat)(h:r<=i):Zz (ZN S r) k i+(if (S r).cab=(k:Int) then (S r).many else 0)=Zz S k (i+1):=by
 induction i with
 | zero =>
  have e:r=0:=by omega
  subst e
  rfl
 | succ i ih =>
  by_cases c:r=i+1
  ·subst c
   rw[zfW k (i+1) (fun j b=>ZW b)]
   rfl
  ·have a:=ih (by omega)
   rw[Zz,Qu (by omega:r<=i)]
   rw[show Zz S k (i+1+1)=Zz S k (i+1)+(if (S (i+1)).cab=(k:Int) then (S (i+1)).many else 0) from rfl,← a]
   omega
theorem out_rooms {p:zP}{n:Nat}{S:Nat->qH}{r:Nat}(h:qX p (n+1) S)(x:r<=n):qX p n (ZN S r):=by
 obtain⟨v,hn,s,u⟩:=h;refine⟨v,by omega,fun i hi=>?_,fun k w=>?_⟩
 ·by_cases c:i<r
  ·obtain⟨⟨f,g,l,m,o⟩,e⟩:=s i (by omega)
   refine⟨?_,fun j t=>?_⟩
   ·unfold OkR0
    rw[ZW c,zeg];exact⟨f,fun q=>g (zdJ (by omega) q),l,m,o⟩
   ·unfold OkR2
    rw[ZW c,ZW (by omega)]
    exact e j t
  ·obtain⟨⟨f,g,l,m,o⟩,e⟩:=s (i+1) (by omega)
   refine⟨?_,fun j t=>?_⟩
   ·unfold OkR0
    rw[Qu (by omega),zeg]
    exact⟨f,fun q=>g (zfV q),l,m,o⟩
   ·unfold OkR2
    rw[Qu (by omega:r<=i)]
    by_cases d:j<r
    ·rw[ZW d];exact e j (by omega)
    ·rw[Qu (by omega)];exact e (j+1) (by omega)
 ·have a:=u k w
  have b:=usedR_out S r k n x;have c:=(s r (by omega)).1.2.2.2.1
  unfold In at c;unfold qk at a ⊢
  split at b <;> omega
theorem zdK {S S':Nat->Qo}(i:Nat)(h:∀ j,j<i->S' j=S j):ZD S' i=ZD S i:=by
 induction i with
 | zero=>rfl
 | succ i ih =>
  unfold ZD;rw[ih (fun j hj=>h j (by omega)),h i (by omega)]
theorem sits_out (S:Nat->Qo)(r i:Nat)(h:r<=i):ZD (ZN S r) i+(S r).many=ZD S (i+1):=by
 induction i with
 | zero =>
  have e:r=0:=by omega
  subst e
  rfl
 | succ i ih =>
  by_cases c:r=i+1
  ·subst c
   rw[zdK (i+1) (fun j b=>ZW b)]
   rfl
  ·have a:=ih (by omega)
   rw[ZD,Qu (by omega:r<=i)]
   rw[show ZD S (i+1+1)=ZD S (i+1)+(S (i+1)).many from rfl,← a]
   omega
theorem out_seats {most:Int}{n:Nat}{S:Nat->Qo}{r:Nat}(h:Z4 most (n+1) S)(k:r<=n):Z4 most n (ZN S r):=by
 obtain⟨j,hn,g,hf⟩:=h;refine⟨j,by omega,fun i hi=>?_,?_⟩
 ·by_cases c:i<r
  ·obtain⟨a,d,e⟩:=g i (by omega)
   rw[ZW c,zeh];exact⟨a,fun f=>d (zdJ (by omega) f),e⟩
  ·obtain⟨a,d,e⟩:=g (i+1) (by omega)
   rw[Qu (by omega),zeh]
   exact⟨a,fun f=>d (zfV f),e⟩
 ·have b:=sits_out S r n k
  have c:=(g r (by omega)).2.2
  unfold In at c
  omega
def QA (p:zP)(F:Nat->Int)(r:qH):Prop :=
 In r.cab 0 ((p.n:Int) - 1)/\(r.all=true->F r.cab.toNat=p.B r.cab.toNat/\r.many=p.B r.cab.toNat)/\(r.all=false->In r.many 1 (F r.cab.toNat))
def qV (p:zP)(S:Nat->qH)(i k:Nat):Int:=if k<p.n then qk p S i k else 0
theorem freeR_0 (p:zP)(S:Nat->qH)(k:Nat):qV p S 0 k=upto p.n p.B 0 k:=by
 unfold qV upto
 split
 ·rw[zeb]
 ·rfl
theorem zbw {p:zP}{S:Nat->qH}{i k:Nat}(h:k<p.n):qV p S i k=qk p S i k:=if_pos h
theorem zgK (p:zP)(S:Nat->qH)(i l j:Nat)(hl:l<p.n)(h:(S i).cab=(l:Int)):(if j=l then qV p S i l - (S i).many else qV p S i j)=qV p S (i+1) j:=by
 by_cases e:j=l
 ·subst e;rw[if_pos rfl,zbw hl,zbw hl,zaI p S i j h]
 ·rw[if_neg e]
  unfold qV
  split
  ·rw[zcq p S i j (by rw[h];omega)]
  ·rfl
theorem zba {p:zP}{S:Nat->qH}{i:Nat}{r:qH}:QA p (qV p S i) r↔QA p (qk p S i) r:=by
 unfold QA
 constructor
 ·rintro⟨h,a,b⟩
  have hl:r.cab.toNat<p.n:=by unfold In at h;omega
  rw[zbw hl] at a b;exact⟨h,a,b⟩
 ·rintro⟨h,a,b⟩
  have hl:r.cab.toNat<p.n:=by unfold In at h;omega
  rw[zbw hl];exact⟨h,a,b⟩
def zfh (p:zP)(n:Nat)(S:Nat->qH):Prop :=
 zdj p/\n<=60/\∀ i,i<n->In (S i).who 1 9999/\¬ Has (Zh S) i (S i).who/\QA p (qk p S i) (S i)
theorem zfi {S:Nat->qH}{k i:Nat}(h:∀ j,j<i->(S j).cab≠(k:Int)):Zz S k i=0:=by
 induction i with
 | zero=>rfl
 | succ i ih=>unfold Zz;rw[ih (fun j hj=>h j (by omega)),if_neg (h i (by omega))];rfl
theorem left_le (p:zP)(S:Nat->qH)(k i:Nat)(h:∀ j,j<i->In (S j).many 1 4):qk p S i k<=p.B k:=by
 have:=zbK p S k 0 i (Nat.zero_le _) h;rw[zeb] at this;exact this
theorem zcM {p:zP}{n:Nat}{S:Nat->qH}(q:zdj p)(v:∀ i,i<n->QA p (qk p S i) (S i)):∀ i,i<=n->(∀ j,j<i->In (S j).many 1 4)/\∀ k,k<p.n->0<=qk p S i k:=by
 intro i
 induction i with
 | zero =>
  intro _;refine⟨fun j t=>by omega,fun k c=>?_⟩
  have:=(q.2 k c).2;unfold In at this;rw[zeb];omega
 | succ i ih =>
  intro hi;obtain⟨a,b⟩:=ih (by omega)
  obtain⟨o,g,h⟩:=v i (by omega)
  obtain⟨l,hl⟩:∃ l:Nat,(S i).cab=l:=⟨(S i).cab.toNat,by unfold In at o;omega⟩
  have d:l<p.n:=by unfold In at o;omega
  have s:(S i).cab.toNat=l:=by omega
  rw[s] at g h;have m:=(q.2 l d).2;have u:=left_le p S l i a;have f:=zaI p S i l hl;have r:In (S i).many 1 4/\0<=qk p S (i+1) l:=by
   cases hall:(S i).all with
   | true =>
    have:=g hall;unfold In at m ⊢
    omega
   | false =>
    have:=h hall;unfold In at m this ⊢
    omega
  refine⟨fun j t=>?_,fun k c=>?_⟩
  ·by_cases e:j=i
   ·subst e;exact r.1
   ·exact a j (by omega)
  ·by_cases e:k=l
   ·subst e;exact r.2
   ·rw[zcq p S i k (by rw[hl];omega)];exact b k c
theorem zcN {p:zP}{n:Nat}{S:Nat->qH}(h:zfh p n S):qX p n S:=by
 obtain⟨r,hn,a⟩:=h;have st:=zcM r (fun i b=>(a i b).2.2)
 refine⟨r,hn,fun i b=>⟨⟨(a i b).1,(a i b).2.1,(a i b).2.2.1,(st n (Nat.le_refl _)).1 i b,fun c=>((a i b).2.2.2.1 c).2⟩,fun j hj x=>?_⟩,fun k y=>(st n (Nat.le_refl _)).2 k y⟩
 obtain⟨w,o,q⟩:=(a i b).2.2;obtain⟨_,k1,k2⟩:=(a j (by omega)).2.2
 obtain⟨l,hl⟩:∃ l:Nat,(S i).cab=l:=⟨(S i).cab.toNat,by unfold In at w;omega⟩
 have u:(S i).cab.toNat=l:=by omega
 have s:(S j).cab=(l:Int):=x.trans hl;have e:(S j).cab.toNat=l:=by omega
 rw[u] at o q;rw[e] at k1 k2;have f:=(st n (Nat.le_refl _)).1 j (by omega)
 have z:=left_le p S l j (fun t A=>(st n (Nat.le_refl _)).1 t (by omega))
 have m:=zaI p S j l s;have g:=zbK p S l (j+1) i (by omega) (fun t A=>(st n (Nat.le_refl _)).1 t (by omega))
 unfold In at f;have d:(S i).all=false:=by
  cases c:(S i).all with
  | false=>rfl
  | true=>have:=(o c).1;omega
 refine⟨?_,d⟩
 cases c:(S j).all with
 | false=>rfl
 | true =>
  have:=k1 c;have v:=q d;unfold In at v
  omega
theorem zcO {p:zP}{n:Nat}{S:Nat->qH}(h:qX p n S):zfh p n S:=by
 have v:=h.manys;obtain⟨s,hn,b,a⟩:=h;refine⟨s,hn,fun i t=>?_⟩
 obtain⟨⟨l,m,c,o,q⟩,r⟩:=b i t;refine⟨l,m,c,fun k=>⟨?_,q k⟩,fun _=>⟨o.1,?_⟩⟩
 ·have:Zz S (S i).cab.toNat i=0:=zfi (fun j u e=>by
   have:=(r j u (by unfold In at c;omega)).2
   rw[k] at this;cases this)
  unfold qk;rw[this];omega
 ·have d:(S i).cab.toNat<p.n:=by unfold In at c;omega
  have g:=zaI p S i (S i).cab.toNat (by unfold In at c;omega)
  have f:=zbK p S (S i).cab.toNat (i+1) n (by omega) v
  have:=a _ d
  omega
theorem zbx {p:zP}{n:Nat}{S:Nat->qH}:zfh p n S↔qX p n S:=⟨zcN,zcO⟩
theorem rooms_few {p:zP}{n:Nat}{S:Nat->qH}(h:qX p n S):n<=24:=by
 have v:=h.manys;obtain⟨r,hn,d,b⟩:=h;have a:∀ i,i<n->∃ l:Nat,(S i).cab=l/\l<p.n:=fun i s=>by
  have q:=(d i s).1.2.2.1;exact⟨(S i).cab.toNat,by unfold In at q;omega,by unfold In at q;omega⟩
 have hp:=r.1;have f:∀ i,i<=n->(i:Int)<=Zz S 0 i+Zz S 1 i+Zz S 2 i+Zz S 3 i+Zz S 4 i+Zz S 5 i:=by
  intro i
  induction i with
  | zero=>intro _;simp[Zz]
  | succ i ih =>
   intro s;have:=ih (by omega)
   obtain⟨l,hl,m⟩:=a i (by omega)
   have o:=(v i (by omega)).1
   have g:l=0∨l=1∨l=2∨l=3∨l=4∨l=5:=by omega
   unfold Zz;rw[hl]
   rcases g with rfl|rfl|rfl|rfl|rfl|rfl <;> simp <;> omega
 have c:∀ k,Zz S k n<=4:=fun k=>by
  by_cases hk:k<p.n
  ·have o:=b k hk
   have t:=(r.2 k hk).2;unfold In at t;unfold qk at o
   omega
  ·rw[zfi (fun j u e=>by obtain⟨l,hl,m⟩:=a j u;rw[hl] at e;omega)];omega
 have:=f n (Nat.le_refl _);have:=c 0;have:=c 1;have:=c 2;have:=c 3;have:=c 4;have:=c 5
 omega
def zai (len cl:Int)(r:Nat):Bool:=if r=2 then true else if r=0 then decide (0<len) else decide (0<cl)
theorem zbN (pe len hei cl be:Int)(all:Bool)(r:Nat)(w:World)(hr:r<3) :
  Calls Tryz.prog 124 #[.agg #[int i64 pe,int i64 len,int i64 hei,int i64 cl,.bool all,int i64 be],int i64 (r:Int)] w fun e w'=>e=.returned (.bool (zai len cl r))/\Below w.heap.size w w':=by
 have c:=heap_alloc_new w (.cells #[int i64 pe,int i64 len,int i64 hei,int i64 cl,.bool all,int i64 be] 41);have a:Below w.heap.size w (w.alloc (.cells #[int i64 pe,int i64 len,int i64 hei,int i64 cl,.bool all,int i64 be] 41)):=zl bZ _;have y1:=za c 1 _ rfl;have y3:=za c 3 _ rfl;have d:r=0∨r=1∨r=2:=by omega
 clear c
 rcases d with rfl|rfl|rfl
 ·by_cases h:0<len
  ·have b:Hid (zai len cl 0=true):=decide_eq_true h
   have d1:decide (0<len)=true:=decide_eq_true h;go_enter Tryz.func124,Tryz.ntmps124;go_wp2;go_ret;exact⟨by rw[b.out];rfl,a⟩
  ·have b:Hid (zai len cl 0=false):=decide_eq_false h
   have d1:decide (0<len)=false:=decide_eq_false h;go_enter Tryz.func124,Tryz.ntmps124;go_wp2;go_ret;exact⟨by rw[b.out];rfl,a⟩
 ·by_cases h:0<cl
  ·have b:Hid (zai len cl 1=true):=decide_eq_true h
   have d1:decide (0<cl)=true:=decide_eq_true h;go_enter Tryz.func124,Tryz.ntmps124;go_wp2;go_ret;exact⟨by rw[b.out];rfl,a⟩
  ·have b:Hid (zai len cl 1=false):=decide_eq_false h
   have d1:decide (0<cl)=false:=decide_eq_false h;go_enter Tryz.func124,Tryz.ntmps124;go_wp2;go_ret;exact⟨by rw[b.out];rfl,a⟩
 ·go_enter Tryz.func124,Tryz.ntmps124
  go_wp2;go_ret;exact⟨rfl,a⟩
theorem Zf (x:Int)(w:World) :
  Calls Tryz.prog 44 #[int i64 x] w fun e w'=>e=.returned (.bool (decide (In x 1 9999)))/\w'=w:=by
 go_enter Tryz.func44,Tryz.ntmps44;go_wp2_with (first|(go_at_call 45;refine(zo _ _ _ _).mono ?_;rintro e w' ⟨rfl,rfl⟩))
 go_ret;exact⟨rfl,rfl⟩
section
open Go.RowKit
def Zl (S:Nat->qi)(k:Nat)(b:qi)(i:Nat):qi:=if i=k then b else S i
theorem qA (S:Nat->qi)(k:Nat)(b:qi):Zl S k b k=b:=if_pos rfl
theorem Zp (S:Nat->qi)(k:Nat)(b:qi){i:Nat}(h:i≠k):Zl S k b i=S i:=if_neg h
theorem setB_setB (S:Nat->qi)(k:Nat)(a b:qi):Zl (Zl S k a) k b=Zl S k b:=by
 funext i
 unfold Zl
 split <;> rfl
def qg (b:qi)(a:Int)(y:OpD):qi :=
 if y.kind=4 then { b with state:=2,unt:=0 }
 else if y.kind=5 then { b with who:=a,lgn:=y.lgn,lg:=y.lg,pe:=y.pe,len:=y.len,hei:=y.hei,cl:=y.cl,all:=y.all,be:=y.be,price:=qN ⟨y.pe,y.len,y.hei,y.cl,y.all,y.be⟩ y.lgn }
 else if y.kind=6 then { b with state:=3,unt:=0 }
 else if y.kind=7 then { b with own:=y.own }
 else { b with state:=4 }
def ZI (n:Nat)(a:Int)(y:OpD):qi :=
 ⟨(n:Int)+1,a,y.own,y.lgn,y.lg,y.pe,y.len,y.hei,y.cl,y.all,y.be,if y.kind=2 then 1 else 2,if y.kind=2 then y.unt else 0,qN ⟨y.pe,y.len,y.hei,y.cl,y.all,y.be⟩ y.lgn⟩
theorem zbd (a:Nat)(b:0<a){C C':Nat->List Value}{f:Nat->Value}{k:Nat}(c:∀ r,r<a->f (k*a+r)=(C' k).getD r (.bool false))(d:∀ j,j / a≠k->f j=recCell a C j)(g:∀ i,i≠k->C' i=C i)(j:Nat):f j=recCell a C' j:=by
 by_cases e:j / a=k
 ·have h:j=k*a+j % a:=by rw[← e,Nat.mul_comm];exact(Nat.div_add_mod j a).symm
  rw[h,c _ (Nat.mod_lt _ b),zz a _ _ _ (Nat.mod_lt _ b)]
 ·rw[d j e]
  unfold recCell;rw[g _ e]
section
variable {w w' : World} {base g c k N : Nat} {S : Nat -> qi} {E : Nat -> Value} {u : Value} {y : qi}
theorem qR.put (h:qR w base (.slice (some ⟨g,0,none⟩) N c) N S E)(z:zA w w' (fun b=>b=g))(f:w'.ownsRow base 43 13 (.slice (some ⟨g,0,none⟩) N c) N (Qq (Zl S k y) (atV E k u) N))(hl:w.ownsRow base 3 1 u y.lgn (zw y.lg y.lgn))(p:∀ i,i<N->i≠k->∀ b,(E i).ownBlock=some b->u.ownBlock≠some b) :
  qR w' base (.slice (some ⟨g,0,none⟩) N c) N (Zl S k y) (atV E k u):=by
 have far:∀ {n:Nat} {v:Value} {t:List Value},w.ownsRow base 3 1 v n t->w'.ownsRow base 3 1 v n t:=fun s=>z.own s (fun q m o=>own_apart h.row s (by decide) q (by rw[o];rfl) m)
 refine⟨f,fun i x=>?_,fun i j l r b d a=>?_⟩
 ·by_cases e:i=k
  ·subst e;rw[atV_at,qA];exact far hl
  ·rw[atV_ne _ _ _ _ e,Zp _ _ _ e];exact far (h.legs i x)
 ·by_cases e:i=k
  ·subst e
   rw[atV_at] at d;rw[atV_ne _ _ _ _ (by omega)] at a
   exact p j r (by omega) b a d
  ·rw[atV_ne _ _ _ _ e] at d
   by_cases e2:j=k
   ·subst e2
    rw[atV_at] at a;exact p i (by omega) e b d a
   ·rw[atV_ne _ _ _ _ e2] at a
    exact h.apart i j l r b d a
theorem qR.far_same (h:qR w base (.slice (some ⟨g,0,none⟩) N c) N S E)(j:k<N):∀ i,i<N->i≠k->∀ b,(E i).ownBlock=some b->(E k).ownBlock≠some b:=fun i f a b d e=>by
 rcases Nat.lt_or_gt_of_ne a with c|c
 ·exact h.apart i k c j b d e
 ·exact h.apart k i c f b e d
end
section
variable {w w' : World} {base g c k n1 n2 n3 : Nat} {v1 v2 u : Value} {x : Off} {L C A B D E : Nat -> Value} {y : qi}
theorem zy.putBk (h:zy w base v1 v2 (.slice (some ⟨g,0,none⟩) n3 c) n1 n2 n3 x L C A B D E)(f:zA w w' (fun b=>b=g))(a:w'.ownsRow base 43 13 (.slice (some ⟨g,0,none⟩) n3 c) n3 (Qq (Zl x.bk k y) (atV E k u) n3))(hl:w.ownsRow base 3 1 u y.lgn (zw y.lg y.lgn))(j:∀ i,i<n3->i≠k->∀ b,(E i).ownBlock=some b->u.ownBlock≠some b) :
  zy w' base v1 v2 (.slice (some ⟨g,0,none⟩) n3 c) n1 n2 n3 { x with bk:=Zl x.bk k y } L C A B D (atV E k u) :=
 ⟨h.sa.other f (fun q e=>by obtain⟨cs,d⟩:=zG h.bk.row q (by rw[show q=g from e];rfl);exact⟨cs,_,d,by decide,by decide,by decide⟩),h.ld.other f (fun q e=>by obtain⟨cs,d⟩:=zG h.bk.row q (by rw[show q=g from e];rfl);exact⟨cs,_,d,by decide,by decide,by decide,by decide⟩),h.bk.put f a hl j⟩
end
def zaD (g base N d c:Nat)(b a:Option Addr)(T:Nat->Prop)(f:Off)(code name price:Int)(h:World->Value->Prop)(L C A B D:Nat->Value)(w:World)(e:Ending)(w':World):Prop :=
 ∃ abk cbk rv E,e=.returned (.agg #[int i64 code,int i64 name,int i64 price,rv])/\h w' rv/\zy w' base (.slice b N d) (.slice a N c) (.slice abk f.bkn cbk) N N f.bkn f L C A B D E /\
  w'.heap[g]?=some (.cells #[.slice b N d,.slice a N c,.slice abk f.bkn cbk] 27 (0,0))/\zA w w' T
theorem zem {w:World}{g t:Nat}{u0 u1 u2 u3:Value}(h:w.heap[g]?=some (.cells #[u0,u1,u2,u3] t (0,0)))(a b c d:Value):((((w.setCell ⟨g,0,none⟩ a).setCell ⟨g,1,none⟩ b).setCell ⟨g,2,none⟩ c).setCell ⟨g,3,none⟩ d).heap[g]?=some (.cells #[a,b,c,d] t (0,0)):=by
 simpa using zt (zt (zt (zt h 0 a) 1 b) 2 c) 3 d
theorem Qv (w:World)(g:Nat)(c d e f:Value):zA w ((((w.setCell ⟨g,0,none⟩ c).setCell ⟨g,1,none⟩ d).setCell ⟨g,2,none⟩ e).setCell ⟨g,3,none⟩ f) (fun b=>b=g):=((((zA.refl w (fun b=>b=g)).set (a:=⟨g,0,none⟩) rfl c).set (a:=⟨g,1,none⟩) rfl d).set (a:=⟨g,2,none⟩) rfl e).set (a:=⟨g,3,none⟩) rfl f
theorem ans_at2 {w:World}{g t:Nat}{u0 u1 u2 u3:Value}(h:w.heap[g]?=some (.cells #[u0,u1,u2,u3] t (0,0)))(v:Value):(w.setCell ⟨g,2,none⟩ v).heap[g]?=some (.cells #[u0,u1,v,u3] t (0,0)):=by simpa using zt h 2 v
theorem keptN {w w':World}{T:Nat->Prop}(h:zA w w' T){b i:Nat}(hb:w.heap.size<=b)(u:Value):zA w (w'.setCell ⟨b,i,none⟩ u) T :=
 ⟨h.os,h.tape,h.output,by have:=h.size;simpa using this,fun k a c=>(Below.heap_setCell w' ⟨b,i,none⟩ u k (by show k≠b;omega)).trans (h.block k a c)⟩
theorem ints_off {w w':World}{c:Option Addr}{n base d:Nat}{F:Nat->Int}(i:zA w w' (fun b=>b=d))(h:zX w c n F)(f:0<n->∀ a,c=some a->a.block<base)(hg:base<=d):zX w' c n F:=fun k e=>by
 obtain⟨b,off,rfl,g⟩:=h k e;have hb:b<base:=f (by omega) _ rfl
 have j:=i.block b (World.block_lt_of_cell? w _ g) (by show ¬ b=d;omega)
 refine⟨b,off,rfl,?_⟩;rw[← g];unfold World.cell?;simp only[j]
theorem Zq {w w':World}{T:Nat->Prop}(h:zA w w' T){a:Addr}{v:Value}(b:w.cell? a=some v)(c:¬ T a.block):w'.cell? a=some v:=by
 have:=h.block a.block (World.block_lt_of_cell? w _ b) c;unfold World.cell? at b ⊢;rw[this];exact b
theorem QE {w Z:World}{T:Nat->Prop}{g c base n o n3:Nat}{s t u p q r u0 u1 u2 u3:Value}{x:Off}{L C A B D E:Nat->Value}(d:zA w Z T)(h:zy Z base s t u n o n3 x L C A B D E)(m:Z.heap[g]?=some (.cells #[p,q,r] 27 (0,0)))(b:Z.heap[c]?=some (.cells #[u0,u1,u2,u3] 116 (0,0)))(a:w.heap.size<=c)(i j k l:Value){F:World}(v:F=(((Z.setCell ⟨c,0,none⟩ i).setCell ⟨c,1,none⟩ j).setCell ⟨c,2,none⟩ k).setCell ⟨c,3,none⟩ l) :
  zy F base s t u n o n3 x L C A B D E/\F.heap[g]?=some (.cells #[p,q,r] 27 (0,0))/\zA w F T/\F.heap[c]?=some (.cells #[i,j,k,l] 116 (0,0)):=by
 subst v;have f:g≠c:=fun e=>by subst e;rw[m] at b;simp at b
 exact⟨h.box (Qv _ _ _ _ _ _) b (by decide),(Qv _ _ _ _ _ _).blk m f,keptN (keptN (keptN (keptN d a _) a _) a _) a _,zem b _ _ _ _⟩
theorem zcR {w Z:World}{T:Nat->Prop}{g f tb base o q n3:Nat}{z G H r s t u0 u1 u2 u3 u v J y:Value}{x:Off}{L C A B D E:Nat->Value}(j:zA w Z T)(l:zy Z base z G H o q n3 x L C A B D E)(n:Z.heap[g]?=some (.cells #[r,s,t] 27 (0,0)))(h:Z.heap[f]?=some (.cells #[u0,u1,u2,u3] 116 (0,0)))(c:Z.heap[tb]?=some (.cells #[u,v,J,y] 116 (0,0)))(d:f≠tb)(m:w.heap.size<=tb)(p:Value){F:World}(I:F=Z.setCell ⟨tb,2,none⟩ p) :
  zy F base z G H o q n3 x L C A B D E/\F.heap[g]?=some (.cells #[r,s,t] 27 (0,0))/\zA w F T/\F.heap[f]?=some (.cells #[u0,u1,u2,u3] 116 (0,0))/\F.heap[tb]?=some (.cells #[u,v,p,y] 116 (0,0)):=by
 subst I;have k:g≠tb:=fun e=>by subst e;rw[n] at c;simp at c
 have i:zA Z (Z.setCell ⟨tb,2,none⟩ p) (fun b=>b=tb):=(zA.refl Z (fun b=>b=tb)).set (a:=⟨tb,2,none⟩) rfl p
 exact⟨l.box i c (by decide),i.blk n k,keptN j m _,i.blk h d,ans_at2 c p⟩
end
theorem zgT (x y:Int)(w:World) :
  Calls Tryz.prog 133 #[int i64 x,int i64 y] w fun e w'=>e=.returned (int i64 (Z3 x y))/\w'=w:=by
 obtain⟨V,g⟩:∃ V,V=Z3 x y:=⟨_,rfl⟩;rw[← g];have c:=hI g;clear g
 by_cases h0:zav x y
 ·have k:decide (zav x y)=true:=decide_eq_true h0
  have d:=hI h0;have j:=hI h0.1;clear h0
  by_cases h1:600<x
  ·have l:decide (600<x)=true:=decide_eq_true h1
   have b:450<x:=by omega
   have h:decide (450<x)=true:=decide_eq_true b;have i:=j.out;unfold In at i;have m:IntKind.i64.wrap (x - 600)=x - 600:=by rw[IntKind.wrap_i64];omega
   have n:IntKind.i64.wrap (x - 600+99)=x - 600+99:=by rw[IntKind.wrap_i64];omega
   have hq:Int.tdiv (x - 600+99) 100=(x - 600+99) / 100:=by rw[Int.tdiv_eq_ediv_of_nonneg (by omega)]
   have o:IntKind.i64.wrap ((x - 600+99) / 100)=(x - 600+99) / 100:=by rw[IntKind.wrap_i64];omega
   have p:IntKind.i64.wrap (25*((x - 600+99) / 100))=25*((x - 600+99) / 100):=by rw[IntKind.wrap_i64];omega
   have q:IntKind.i64.wrap (90+25*((x - 600+99) / 100))=90+25*((x - 600+99) / 100):=by rw[IntKind.wrap_i64];omega
   have r:IntKind.i64.wrap (90+25*((x - 600+99) / 100)+30)=90+25*((x - 600+99) / 100)+30:=by rw[IntKind.wrap_i64];omega
   clear i
   by_cases h5:220<y
   ·have f:decide (220<y)=true:=decide_eq_true h5
    have a:Hid (V=90+25*((x - 600+99) / 100)+30):=by show V=90+25*((x - 600+99) / 100)+30;rw[c.out];unfold Z3;rw[if_pos d.out];simp only[if_pos h1,if_pos h5];(try omega)
    rw[a.out];go_enter Tryz.func133,Tryz.ntmps133;go_wp2_with (first|(go_at_call 88;refine sC (qh _ _ _) ?_))
    go_ret;exact⟨rfl,rfl⟩
   ·have f:decide (220<y)=false:=decide_eq_false h5
    have a:Hid (V=90+25*((x - 600+99) / 100)):=by show V=90+25*((x - 600+99) / 100);rw[c.out];unfold Z3;rw[if_pos d.out];simp only[if_pos h1,if_neg h5];(try omega)
    rw[a.out];go_enter Tryz.func133,Tryz.ntmps133;go_wp2_with (first|(go_at_call 88;refine sC (qh _ _ _) ?_))
    go_ret;exact⟨rfl,rfl⟩
  ·have l:decide (600<x)=false:=decide_eq_false h1
   by_cases b:450<x
   ·have h:decide (450<x)=true:=decide_eq_true b
    by_cases h5:220<y
    ·have f:decide (220<y)=true:=decide_eq_true h5
     have a:Hid (V=90+30):=by show V=90+30;rw[c.out];unfold Z3;rw[if_pos d.out];simp only[if_neg h1,if_pos b,if_pos h5];(try omega)
     rw[a.out];go_enter Tryz.func133,Tryz.ntmps133;go_wp2_with (first|(go_at_call 88;refine sC (qh _ _ _) ?_))
     go_ret;exact⟨rfl,rfl⟩
    ·have f:decide (220<y)=false:=decide_eq_false h5
     have a:Hid (V=90):=by show V=90;rw[c.out];unfold Z3;rw[if_pos d.out];simp only[if_neg h1,if_pos b,if_neg h5];(try omega)
     rw[a.out];go_enter Tryz.func133,Tryz.ntmps133;go_wp2_with (first|(go_at_call 88;refine sC (qh _ _ _) ?_))
     go_ret;exact⟨rfl,rfl⟩
   ·have h:decide (450<x)=false:=decide_eq_false b
    by_cases h5:220<y
    ·have f:decide (220<y)=true:=decide_eq_true h5
     have a:Hid (V=60+30):=by show V=60+30;rw[c.out];unfold Z3;rw[if_pos d.out];simp only[if_neg h1,if_neg b,if_pos h5];(try omega)
     rw[a.out];go_enter Tryz.func133,Tryz.ntmps133;go_wp2_with (first|(go_at_call 88;refine sC (qh _ _ _) ?_))
     go_ret;exact⟨rfl,rfl⟩
    ·have f:decide (220<y)=false:=decide_eq_false h5
     have a:Hid (V=60):=by show V=60;rw[c.out];unfold Z3;rw[if_pos d.out];simp only[if_neg h1,if_neg b,if_neg h5];(try omega)
     rw[a.out];go_enter Tryz.func133,Tryz.ntmps133;go_wp2_with (first|(go_at_call 88;refine sC (qh _ _ _) ?_))
     go_ret;exact⟨rfl,rfl⟩
 ·have k:decide (zav x y)=false:=decide_eq_false h0
  have a:Hid (V=0):=by rw[c.out];exact if_neg h0
  rw[a.out];clear h0;go_enter Tryz.func133,Tryz.ntmps133;go_wp2_with (first|(go_at_call 88;refine sC (qh _ _ _) ?_))
  go_ret;exact⟨rfl,rfl⟩
theorem zen (cl:Int)(all:Bool)(be:Int)(w:World) :
  Calls Tryz.prog 134 #[int i64 cl,.bool all,int i64 be] w fun e w'=>e=.returned (int i64 (Zx cl all be))/\Below w.heap.size w w':=by
 obtain⟨V,g⟩:∃ V,V=Zx cl all be:=⟨_,rfl⟩;rw[← g];have b:=hI g;clear g
 by_cases h1:In cl 1 3
 ·have k:decide (In cl 1 3)=true:=decide_eq_true h1
  have c:=hI h1
  cases all with
  | true =>
   by_cases h2:be=0
   ·subst h2
    have f:cl=1∨cl=2∨cl=3:=by unfold In at h1;omega
    clear h1
    rcases f with rfl|rfl|rfl
    ·have a:Hid (V=90):=by show V=90;rw[b.out];exact if_pos ⟨c.out,.inl ⟨rfl,rfl⟩⟩
     rw[a.out];go_enter Tryz.func134,Tryz.ntmps134;go_wp2_with (first|(go_at_call 45;refine sC (zo _ _ _ _) ?_))
     go_ret;exact⟨rfl,zl bZ _⟩
    ·have a:Hid (V=150):=by show V=150;rw[b.out];exact if_pos ⟨c.out,.inl ⟨rfl,rfl⟩⟩
     rw[a.out];go_enter Tryz.func134,Tryz.ntmps134;go_wp2_with (first|(go_at_call 45;refine sC (zo _ _ _ _) ?_))
     go_ret;exact⟨rfl,zl bZ _⟩
    ·have a:Hid (V=240):=by show V=240;rw[b.out];exact if_pos ⟨c.out,.inl ⟨rfl,rfl⟩⟩
     rw[a.out];go_enter Tryz.func134,Tryz.ntmps134;go_wp2_with (first|(go_at_call 45;refine sC (zo _ _ _ _) ?_))
     go_ret;exact⟨rfl,zl bZ _⟩
   ·have i:(be == 0)=false:=by simpa using h2
    have e3:(be != 0)=true:=by simpa using h2
    have a:Hid (V=0):=by rw[b.out];exact if_neg (fun h=>by rcases h.2 with h|h;exact h2 h.2;cases h.1)
    rw[a.out];clear h1 h2;go_enter Tryz.func134,Tryz.ntmps134;go_wp2_with (first|(go_at_call 45;refine sC (zo _ _ _ _) ?_))
    go_ret;exact⟨rfl,bZ⟩
  | false =>
   by_cases h2:In be 1 4
   ·have i:decide (In be 1 4)=true:=decide_eq_true h2
    have d:=hI h2;have f:cl=1∨cl=2∨cl=3:=by unfold In at h1;omega
    have h4:1<=be/\be<=4:=h2;clear h1 h2
    rcases f with rfl|rfl|rfl
    ·have a:Hid (V=30*be):=by show V=30*be;rw[b.out];unfold Zx;rw[if_pos ⟨c.out,.inr ⟨rfl,d.out⟩⟩];rfl
     rw[a.out];have j:IntKind.i64.wrap (30*be)=30*be:=by rw[IntKind.wrap_i64];omega
     go_enter Tryz.func134,Tryz.ntmps134;go_wp2_with (first|(go_at_call 45;refine sC (zo _ _ _ _) ?_))
     go_ret;exact⟨rfl,zl bZ _⟩
    ·have a:Hid (V=50*be):=by show V=50*be;rw[b.out];unfold Zx;rw[if_pos ⟨c.out,.inr ⟨rfl,d.out⟩⟩];rfl
     rw[a.out];have j:IntKind.i64.wrap (50*be)=50*be:=by rw[IntKind.wrap_i64];omega
     go_enter Tryz.func134,Tryz.ntmps134;go_wp2_with (first|(go_at_call 45;refine sC (zo _ _ _ _) ?_))
     go_ret;exact⟨rfl,zl bZ _⟩
    ·have a:Hid (V=80*be):=by show V=80*be;rw[b.out];unfold Zx;rw[if_pos ⟨c.out,.inr ⟨rfl,d.out⟩⟩];rfl
     rw[a.out];have j:IntKind.i64.wrap (80*be)=80*be:=by rw[IntKind.wrap_i64];omega
     go_enter Tryz.func134,Tryz.ntmps134;go_wp2_with (first|(go_at_call 45;refine sC (zo _ _ _ _) ?_))
     go_ret;exact⟨rfl,zl bZ _⟩
   ·have i:decide (In be 1 4)=false:=decide_eq_false h2
    have a:Hid (V=0):=by rw[b.out];exact if_neg (fun h=>by rcases h.2 with h|h;cases h.1;exact h2 h.2)
    rw[a.out];clear h1 h2;go_enter Tryz.func134,Tryz.ntmps134;go_wp2_with (first|(go_at_call 45;refine sC (zo _ _ _ _) ?_))
    go_ret;exact⟨rfl,bZ⟩
 ·have k:decide (In cl 1 3)=false:=decide_eq_false h1
  have a:Hid (V=0):=by rw[b.out];exact if_neg (fun h=>h1 h.1)
  rw[a.out];clear h1
  cases all with
  | true =>
   go_enter Tryz.func134,Tryz.ntmps134;go_wp2_with (first|(go_at_call 45;refine sC (zo _ _ _ _) ?_))
   go_ret;exact⟨rfl,bZ⟩
  | false =>
   go_enter Tryz.func134,Tryz.ntmps134;go_wp2_with (first|(go_at_call 45;refine sC (zo _ _ _ _) ?_))
   go_ret;exact⟨rfl,bZ⟩
theorem zeo (x y:Int)(w:World) :
  Calls Tryz.prog 131 #[int i64 x,int i64 y] w fun e w'=>e=.returned (int i64 (Qd x y))/\w'=w:=by
 obtain⟨V,d⟩:∃ V,V=Qd x y:=⟨_,rfl⟩;rw[← d];have b:=hI d;clear d
 by_cases h1:In x 0 1000000
 ·have f:decide (In x 0 1000000)=true:=decide_eq_true h1
  by_cases h2:In y (-10000) 10000
  ·have g:decide (In y (-10000) 10000)=true:=decide_eq_true h2
   have k:0<=x:=h1.1;have l:x<=1000000:=h1.2;have c:Hid (In x 0 1000000/\In y (-10000) 10000):=⟨h1,h2⟩;clear h1 h2
   by_cases h3:100<=y
   ·have i:decide (100<=y)=true:=decide_eq_true h3
    have a:Hid (V=x):=by show V=x;rw[b.out];unfold Qd;rw[if_pos c.out,if_pos h3]
    rw[a.out];clear h3;go_enter Tryz.func131,Tryz.ntmps131;go_wp2_with (first|(go_at_call 45;refine sC (zo _ _ _ _) ?_))
    go_ret;exact⟨rfl,rfl⟩
   ·have i:decide (100<=y)=false:=decide_eq_false h3
    by_cases h4:20<=y
    ·have j:decide (20<=y)=true:=decide_eq_true h4
     have a:Hid (V=x / 2):=by show V=x / 2;rw[b.out];unfold Qd;rw[if_pos c.out,if_neg h3,if_pos h4]
     have hq:Int.tdiv x 2=x / 2:=by rw[Int.tdiv_eq_ediv_of_nonneg k]
     have m:IntKind.i64.wrap (x / 2)=x / 2:=by rw[IntKind.wrap_i64];omega
     rw[a.out];clear h3 h4;go_enter Tryz.func131,Tryz.ntmps131;go_wp2_with (first|(go_at_call 45;refine sC (zo _ _ _ _) ?_))
     go_ret;exact⟨rfl,rfl⟩
    ·have j:decide (20<=y)=false:=decide_eq_false h4
     have a:Hid (V=0):=by show V=0;rw[b.out];unfold Qd;rw[if_pos c.out,if_neg h3,if_neg h4]
     rw[a.out];clear h3 h4;go_enter Tryz.func131,Tryz.ntmps131;go_wp2_with (first|(go_at_call 45;refine sC (zo _ _ _ _) ?_))
     go_ret;exact⟨rfl,rfl⟩
  ·have g:decide (In y (-10000) 10000)=false:=decide_eq_false h2
   have a:Hid (V=0):=by rw[b.out];exact if_neg (fun h=>h2 h.2)
   rw[a.out];clear h1 h2;go_enter Tryz.func131,Tryz.ntmps131;go_wp2_with (first|(go_at_call 45;refine sC (zo _ _ _ _) ?_))
   go_ret;exact⟨rfl,rfl⟩
 ·have f:decide (In x 0 1000000)=false:=decide_eq_false h1
  have a:Hid (V=0):=by rw[b.out];exact if_neg (fun h=>h1 h.1)
  rw[a.out];clear h1;go_enter Tryz.func131,Tryz.ntmps131;go_wp2_with (first|(go_at_call 45;refine sC (zo _ _ _ _) ?_))
  go_ret;exact⟨rfl,rfl⟩
structure zbi where
 name:Int
 own:ByteArray
 pe:Int
 ln:Int
 cab:Int
def zbi.zero:zbi:=⟨0,⟨#[]⟩,0,0,0⟩
instance:Inhabited zbi:=⟨zbi.zero⟩
def zep (w:World)(a:Option Addr)(n:Nat)(S:Nat->zbi):Prop :=
 ∀ k,k<n->∃ b off,a=some ⟨b,off,none⟩/\w.cell? ⟨b,off+k*5,none⟩=some (int i64 (S k).name)/\w.cell? ⟨b,off+k*5+1,none⟩=some (.string (S k).own)/\w.cell? ⟨b,off+k*5+2,none⟩=some (int i64 (S k).pe)/\w.cell? ⟨b,off+k*5+3,none⟩=some (int i64 (S k).ln)/\w.cell? ⟨b,off+k*5+4,none⟩=some (int i64 (S k).cab)
theorem zep.below {w w':World}{d:Option Addr}{n:Nat}{S:Nat->zbi}(h:zep w d n S)(c:Below w.heap.size w w'):zep w' d n S:=by
 intro k m;obtain⟨b,off,e,f,g,i,j,l⟩:=h k m;have a:b<w.heap.size:=World.block_lt_of_cell? w _ f;exact⟨b,off,e,(c.cell a).trans f,(c.cell a).trans g,(c.cell a).trans i,(c.cell a).trans j,(c.cell a).trans l⟩
def Qs (S:Nat->zbi)(j:Nat):Value :=
 if j % 5=0 then int i64 (S (j / 5)).name else if j % 5=1 then .string (S (j / 5)).own else if j % 5=2 then int i64 (S (j / 5)).pe else if j % 5=3 then int i64 (S (j / 5)).ln else int i64 (S (j / 5)).cab
theorem zfp (S:Nat->zbi)(k:Nat):Qs S (k*5)=int i64 (S k).name:=by
 unfold Qs;rw[if_pos (by omega),show k*5 / 5=k by omega]
theorem zfq (S:Nat->zbi)(k:Nat):Qs S (k*5+1)=.string (S k).own:=by
 unfold Qs;rw[if_neg (by omega),if_pos (by omega),show(k*5+1) / 5=k by omega]
theorem zfr (S:Nat->zbi)(k:Nat):Qs S (k*5+2)=int i64 (S k).pe:=by
 unfold Qs;rw[if_neg (by omega),if_neg (by omega),if_pos (by omega),show(k*5+2) / 5=k by omega]
theorem zfs (S:Nat->zbi)(k:Nat):Qs S (k*5+3)=int i64 (S k).ln:=by
 unfold Qs;rw[if_neg (by omega),if_neg (by omega),if_neg (by omega),if_pos (by omega),show(k*5+3) / 5=k by omega]
theorem zft (S:Nat->zbi)(k:Nat):Qs S (k*5+4)=int i64 (S k).cab:=by
 unfold Qs;rw[if_neg (by omega),if_neg (by omega),if_neg (by omega),if_neg (by omega),show(k*5+4) / 5=k by omega]
def qC (S:Nat->zbi)(n:Nat):List Value:=(List.range (n*5)).map (Qs S)
theorem Qn (S:Nat->zbi)(k:Nat):qC S (k+1)=qC S k++[int i64 (S k).name,.string (S k).own,int i64 (S k).pe,int i64 (S k).ln,int i64 (S k).cab]:=by
 unfold qC;rw[show(k+1)*5=k*5+1+1+1+1+1 by omega,List.range_succ,List.range_succ,List.range_succ,List.range_succ,List.range_succ]
 simp only[List.map_append,List.map_cons,List.map_nil,List.append_assoc,List.cons_append,List.nil_append,zfp,zfq,zfr,zfs,zft]
theorem zbz {S S':Nat->zbi}{n:Nat}(h:∀ i,i<n->S i=S' i):qC S n=qC S' n:=by
 unfold qC;refine List.map_congr_left (fun j a=>?_)
 have b:j<n*5:=by simpa using a
 unfold Qs;rw[h (j / 5) (by omega)]
theorem zgf {w:World}{base e n c:Nat}{a:Option Addr}{S:Nat->zbi}(h:w.ownsRow base e 5 (.slice a n c) n (qC S n)):zep w a n S:=by
 intro k hk;obtain⟨g,rfl,_,_⟩:=own_addr h (by omega)
 have b:=zx h (k*5) (by omega) rfl
 rw[zfp] at b;have d:=zx h (k*5+1) (by omega) rfl
 rw[zfq] at d;have f:=zx h (k*5+2) (by omega) rfl
 rw[zfr] at f;have i:=zx h (k*5+3) (by omega) rfl
 rw[zfs] at i;have j:=zx h (k*5+4) (by omega) rfl
 rw[zft] at j;exact⟨g,0,rfl,by rw[Nat.zero_add];exact b,by rw[Nat.zero_add];exact d,by rw[Nat.zero_add];exact f,by rw[Nat.zero_add];exact i,by rw[Nat.zero_add];exact j⟩
theorem l1Has_no (c:Option Addr)(n cap:Nat)(f:Nat->Int)(x:Int)(w:World)(hn:n<=1048576)(g:zX w c n f)(a:∀ j,j<n->f j≠x) :
  Calls Tryz.prog 21 #[.slice c n cap,int i64 x] w fun e w'=>e=.returned (.bool false)/\w'=w:=by
 go_enter Tryz.func21,Tryz.ntmps21;go_wp2;go_loop [9] (fun i=>∃ k:Nat,k<=n/\i=int i64 k) (fun i=>n - (intOf i).toNat)
 case atStart=>exact⟨0,Nat.zero_le _,rfl⟩
 case round =>
  obtain⟨k,hk,rfl⟩:=hrel
  by_cases hlt:k<n
  ·obtain⟨b,off,rfl,hc⟩:=g k hlt
   have d:(f k == x)=false:=by simpa using a k hlt
   go_wp2;go_round
   case rel=>exact⟨k+1,by omega,by go_num⟩
   case measure=>simp[intOf];omega
  ·go_wp2
   go_ret;exact⟨rfl,rfl⟩
theorem l1Has_yes (h:Option Addr)(n cap:Nat)(f:Nat->Int)(x:Int)(w:World)(hn:n<=1048576)(o:zX w h n f)(c:∃ j,j<n/\f j=x) :
  Calls Tryz.prog 21 #[.slice h n cap,int i64 x] w fun e w'=>e=.returned (.bool true)/\w'=w:=by
 have H:=hI c;clear c;go_enter Tryz.func21,Tryz.ntmps21;go_wp2;go_loop [9] (fun i=>∃ k:Nat,k<=n/\i=int i64 k/\∀ j,j<k->f j≠x) (fun i=>n - (intOf i).toNat)
 case atStart=>exact⟨0,Nat.zero_le _,rfl,by omega⟩
 case round =>
  obtain⟨k,hk,rfl,a⟩:=hrel;have g:=hI a;clear a
  by_cases hlt:k<n
  ·obtain⟨b,off,rfl,hc⟩:=o k hlt
   by_cases he:f k=x
   ·have d:(f k == x)=true:=by simpa using he
    clear he;go_wp2;go_ret;exact⟨rfl,rfl⟩
   ·have d:(f k == x)=false:=by simpa using he
    have l:=hI he;clear he;go_wp2;go_round
    case rel=>exact⟨k+1,by omega,by go_num,fun j m=>by
     by_cases e:j=k
     ·rw[e];exact l.out
     ·exact g.out j (by omega)⟩
    case measure=>simp[intOf];omega
  ·exfalso
   obtain⟨j,m,e⟩:=H.out;exact g.out j (by omega) e
theorem zfv (c:Option Addr)(n cap:Nat)(f:Nat->Int)(x:Int)(w:World)(hn:n<=1048576)(d:zX w c n f) :
  Calls Tryz.prog 21 #[.slice c n cap,int i64 x] w fun e w'=>(∃ b:Bool,e=.returned (.bool b)/\(b=true↔∃ j,j<n/\f j=x))/\w'=w:=by
 by_cases h:∃ j,j<n/\f j=x
 ·exact(l1Has_yes c n cap f x w hn d h).mono fun _ _ ⟨a,b⟩=>⟨⟨true,a,⟨fun _=>h,fun _=>rfl⟩⟩,b⟩
 ·exact(l1Has_no c n cap f x w hn d (fun j g e=>h ⟨j,g,e⟩)).mono fun _ _ ⟨a,b⟩=>⟨⟨false,a,⟨fun e=>(by cases e),fun e=>absurd e h⟩⟩,b⟩
theorem QF {P:Program}{d:Array Oper}{o:Oper}{a:Act}{w:World}{K:Act->World->Prop}{Q:Exit->Act->World->Prop}{E:Prop}(h:o.guard=none)(t e:TypeId)(len:Nat)(b:Array (Nat × Operand))(j:o.op=.buildSlice t len b)(k:P.underlying t=some (.slice e))(cells:Array Value)
  (c:P.builtSlice e len (b.map fun (i,x)=>(i,a.eval x)).toList=some cells) (g:K (a.put o.dst (.slice (some ⟨w.heap.size,0,none⟩) len len)) (w.alloc (.cells cells e))) :
  if Region.wanted o (yielded d a.tmps)=true then Oper.wp P o a w K Q else E:=by
 have l:Region.wanted o (yielded d a.tmps)=true:=by simp[Region.wanted,h]
 rw[if_pos l];unfold Program.builtSlice at c
 cases hie:P.info? e with
 | none=>simp[hie] at c
 | some ie =>
  simp only[hie] at c
  cases hz:ie.zero with
  | none=>simp[hz] at c
  | some z =>
   simp only[hz] at c
   by_cases hc:len*ie.size > 2 ^ 24∨len*ie.size=0
   ·simp[hc] at c
   ·rw[if_neg hc] at c
    exact wp_buildSlice t e len b j cells ie z k hie hz (fun f=>hc (Or.inl f)) (fun f=>hc (Or.inr f)) c g
theorem zct {w:World}{g t:Nat}{u0 u1 u2 u3 u4 u5 u6 u7 u8 u9 u10 u11 u12:Value}(h:w.heap[g]?=some (.cells #[u0,u1,u2,u3,u4,u5,u6,u7,u8,u9,u10,u11,u12] t (0,0)))(d e f i j k l m n o a b c:Value) :
  (((((((((((((w.setCell ⟨g,0,none⟩ d).setCell ⟨g,1,none⟩ e).setCell ⟨g,2,none⟩ f).setCell ⟨g,3,none⟩ i).setCell ⟨g,4,none⟩ j).setCell ⟨g,5,none⟩ k).setCell ⟨g,6,none⟩ l).setCell ⟨g,7,none⟩ m).setCell ⟨g,8,none⟩ n).setCell ⟨g,9,none⟩ o).setCell ⟨g,10,none⟩ a).setCell ⟨g,11,none⟩ b).setCell ⟨g,12,none⟩ c).heap[g]?=some (.cells #[d,e,f,i,j,k,l,m,n,o,a,b,c] t (0,0)):=by
 simpa using zt (zt (zt (zt (zt (zt (zt (zt (zt (zt (zt (zt (zt h 0 d) 1 e) 2 f) 3 i) 4 j) 5 k) 6 l) 7 m) 8 n) 9 o) 10 a) 11 b) 12 c
theorem zcu {W w:World}{b:Nat}(h:Below W.heap.size W w)(a:W.heap.size<=b)(f g i j k l m n o q c d e:Value) :
  Below W.heap.size W (((((((((((((w.setCell ⟨b,0,none⟩ f).setCell ⟨b,1,none⟩ g).setCell ⟨b,2,none⟩ i).setCell ⟨b,3,none⟩ j).setCell ⟨b,4,none⟩ k).setCell ⟨b,5,none⟩ l).setCell ⟨b,6,none⟩ m).setCell ⟨b,7,none⟩ n).setCell ⟨b,8,none⟩ o).setCell ⟨b,9,none⟩ q).setCell ⟨b,10,none⟩ c).setCell ⟨b,11,none⟩ d).setCell ⟨b,12,none⟩ e):=by
 exact(Below.setCell (p:=⟨b,12,none⟩) (Below.setCell (p:=⟨b,11,none⟩) (Below.setCell (p:=⟨b,10,none⟩) (Below.setCell (p:=⟨b,9,none⟩) (Below.setCell (p:=⟨b,8,none⟩) (Below.setCell (p:=⟨b,7,none⟩) (Below.setCell (p:=⟨b,6,none⟩) (Below.setCell (p:=⟨b,5,none⟩) (Below.setCell (p:=⟨b,4,none⟩) (Below.setCell (p:=⟨b,3,none⟩) (Below.setCell (p:=⟨b,2,none⟩) (Below.setCell (p:=⟨b,1,none⟩) (Below.setCell (p:=⟨b,0,none⟩) h a f) a g) a i) a j) a k) a l) a m) a n) a o) a q) a c) a d) a e)
theorem zbA (w:World)(b:Nat)(f g h i j k l m n o c d e:Value) :
  zA w (((((((((((((w.setCell ⟨b,0,none⟩ f).setCell ⟨b,1,none⟩ g).setCell ⟨b,2,none⟩ h).setCell ⟨b,3,none⟩ i).setCell ⟨b,4,none⟩ j).setCell ⟨b,5,none⟩ k).setCell ⟨b,6,none⟩ l).setCell ⟨b,7,none⟩ m).setCell ⟨b,8,none⟩ n).setCell ⟨b,9,none⟩ o).setCell ⟨b,10,none⟩ c).setCell ⟨b,11,none⟩ d).setCell ⟨b,12,none⟩ e) (fun x=>x=b):=by
 exact((((((((((((((zA.refl w (fun x=>x=b)).set (a:=⟨b,0,none⟩) rfl f).set (a:=⟨b,1,none⟩) rfl g).set (a:=⟨b,2,none⟩) rfl h).set (a:=⟨b,3,none⟩) rfl i).set (a:=⟨b,4,none⟩) rfl j).set (a:=⟨b,5,none⟩) rfl k).set (a:=⟨b,6,none⟩) rfl l).set (a:=⟨b,7,none⟩) rfl m).set (a:=⟨b,8,none⟩) rfl n).set (a:=⟨b,9,none⟩) rfl o).set (a:=⟨b,10,none⟩) rfl c).set (a:=⟨b,11,none⟩) rfl d).set (a:=⟨b,12,none⟩) rfl e)
end Go.Proofs.YtgmdnkngnhkgbaaGreat

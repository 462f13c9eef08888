import Derived.Test.YtfallpinmhbemaaGreatDoorB16
namespace Go.Proofs.YtfallpinmhbemaaGreatDoor
open Go.RowKit
open Go.Value (int)
open Go.IntKind (i64)
set_option maxHeartbeats 64000000
set_option maxRecDepth 1000000
theorem zek {S a:Nat->ZX}(k i:Nat)(h:∀ j,j<i->a j=S j):zfN a k i=zfN S k i:=by
 induction i with
 | zero=>rfl
 | succ i ih =>
  unfold zfN;rw[ih (fun j hj=>h j (by omega)),h i (by omega)]
theorem zel {p:qi}{S a:Nat->ZX}(i:Nat)(h:∀ j,j<i->a j=S j):QF p a i=QF p S i:=by
 funext k
 unfold QF;rw[zek k i h]
theorem zdi {F a:Nat->Int}{n:Nat}{x:Int}(h:∀ j,j<n->a j=F j):Has a n x↔Has F n x :=
 ⟨fun ⟨j,hj,e⟩=>⟨j,hj,by rw[← h j hj];exact e⟩,fun ⟨j,hj,e⟩=>⟨j,hj,by rw[h j hj];exact e⟩⟩
theorem zfV {S T:Nat->ZX}{n i:Nat}(h:i<n):QD S n T i=S i:=if_pos h
theorem cat_n {S:Nat->ZX}{n:Nat}{s:ZX}:QD S n (fun _=>s) n=s:=if_neg (by omega)
theorem zhY {p:qi}{n:Nat}{S:Nat->ZX}{x len hei:Int}{k:Nat}(h:Places p n S x len hei k) :
  zfO p (n+1) (QD S n (fun _=>⟨x,(k:Int),len,hei⟩))/\Has (Q8 (QD S n (fun _=>⟨x,(k:Int),len,hei⟩))) (n+1) x/\zfM (Q8 (QD S n (fun _=>⟨x,(k:Int),len,hei⟩))) x (n+1)=n:=by
 obtain⟨hd,hn,m,o,q,r,hk,⟨s,t⟩,_⟩:=h;have l:∀ j,j<n->Q8 (QD S n (fun _=>⟨x,(k:Int),len,hei⟩)) j=Q8 S j:=fun j d=>by unfold Q8;rw[zfV d]
 have g:Q8 (QD S n (fun _=>⟨x,(k:Int),len,hei⟩)) n=x:=by unfold Q8;rw[cat_n]
 refine⟨⟨hd.1,by have:=hd.2.1;omega,fun i hi=>?_⟩,⟨n,Nat.lt_succ_self _,g⟩,ixOf_is (Nat.lt_succ_self _) g (fun j d=>by rw[l j d];exact fun e=>m ⟨j,d,e⟩)⟩
 by_cases e:i=n
 ·subst e
  rw[cat_n,zel i (fun j d=>zfV d)]
  refine⟨fun c=>m ((zdi l).1 c),o,q,r,⟨by show(0:Int)<=(k:Int);omega,by show(k:Int)<=_;omega⟩,s,t⟩
 ·have f:i<n:=by omega
  rw[zfV f,zel i (fun j d=>zfV (by omega))]
  obtain⟨a,b⟩:=hd.2.2 i f;exact⟨fun c=>a ((zdi (fun j d=>l j (by omega))).1 c),b⟩
def Qf {α:Type}(S:Nat->α)(r:Nat)(i:Nat):α:=if i<r then S i else S (i+1)
theorem Qn {α:Type}{S:Nat->α}{r i:Nat}(h:i<r):Qf S r i=S i:=if_pos h
theorem QP {α:Type}{S:Nat->α}{r i:Nat}(h:r<=i):Qf S r i=S (i+1):=if_neg (by omega)
theorem zgU {F:Nat->Int}{r i:Nat}{x:Int}(h:Has (Qf F r) i x):Has F (i+1) x:=by
 obtain⟨j,hj,e⟩:=h
 by_cases c:j<r
 ·exact⟨j,by omega,by rw[← e,Qn c]⟩
 ·exact⟨j+1,by omega,by rw[← e,QP (by omega)]⟩
theorem zem {F:Nat->Int}{r i:Nat}{x:Int}(hi:i<=r)(h:Has (Qf F r) i x):Has F i x:=by
 obtain⟨j,a,e⟩:=h;exact⟨j,a,by rw[← e,Qn (by omega)]⟩
theorem zdk {F:Nat->Int}{n r:Nat}{x:Int}(hr:r<=n)(b:F r≠x):Has (Qf F r) n x↔Has F (n+1) x:=by
 refine⟨zgU,?_⟩;rintro⟨j,hj,e⟩
 by_cases c:j<r
 ·exact⟨j,by omega,by rw[← e,Qn c]⟩
 ·have a:j≠r:=fun q=>b (by rw[← q];exact e)
  exact⟨j - 1,by omega,by rw[← e,QP (by omega),show j - 1+1=j by omega]⟩
theorem zeP (S:Nat->ZF)(r:Nat):zaW (Qf S r)=Qf (zaW S) r:=by
 funext i
 unfold zaW Qf
 split <;> rfl
theorem zeQ (S:Nat->zaf)(r:Nat):zaU (Qf S r)=Qf (zaU S) r:=by
 funext i
 unfold zaU Qf
 split <;> rfl
theorem zgV {S a:Nat->ZF}(k i:Nat)(h:∀ j,j<i->a j=S j):ZZ a k i=ZZ S k i:=by
 induction i with
 | zero=>rfl
 | succ i ih =>
  unfold ZZ;rw[ih (fun j hj=>h j (by omega)),h i (by omega)]
theorem usedR_out (S:Nat->ZF)(r k i:Nat)(h:r<=i):ZZ (Qf S r) k i+(if (S r).cab=(k:Int) then (S r).many else 0)=ZZ S k (i+1):=by
 induction i with
 | zero =>
  have e:r=0:=by omega
  subst e
  rfl
 | succ i ih =>
  by_cases c:r=i+1
  ·subst c
   rw[zgV k (i+1) (fun j b=>Qn b)]
   rfl
  ·have a:=ih (by omega)
   rw[ZZ,QP (by omega:r<=i)]
   rw[show ZZ S k (i+1+1)=ZZ S k (i+1)+(if (S (i+1)).cab=(k:Int) then (S (i+1)).many else 0) from rfl,← a]
   omega
theorem out_rooms {p:qi}{n:Nat}{S:Nat->ZF}{r:Nat}(h:QL p (n+1) S)(x:r<=n):QL p n (Qf S r):=by
 obtain⟨v,hn,s,u⟩:=h;refine⟨v,by omega,fun i hi=>?_,fun k w=>?_⟩
 ·by_cases c:i<r
  ·obtain⟨⟨f,g,l,m,o⟩,e⟩:=s i (by omega)
   refine⟨?_,fun j t=>?_⟩
   ·unfold OkR0
    rw[Qn c,zeP];exact⟨f,fun q=>g (zem (by omega) q),l,m,o⟩
   ·unfold OkR2
    rw[Qn c,Qn (by omega)]
    exact e j t
  ·obtain⟨⟨f,g,l,m,o⟩,e⟩:=s (i+1) (by omega)
   refine⟨?_,fun j t=>?_⟩
   ·unfold OkR0
    rw[QP (by omega),zeP]
    exact⟨f,fun q=>g (zgU q),l,m,o⟩
   ·unfold OkR2
    rw[QP (by omega:r<=i)]
    by_cases d:j<r
    ·rw[Qn d];exact e j (by omega)
    ·rw[QP (by omega)];exact e (j+1) (by omega)
 ·have a:=u k w
  have b:=usedR_out S r k n x;have c:=(s r (by omega)).1.2.2.2.1
  unfold In at c;unfold qW at a ⊢
  split at b <;> omega
theorem zen {S a:Nat->zaf}(i:Nat)(h:∀ j,j<i->a j=S j):zbE a i=zbE S i:=by
 induction i with
 | zero=>rfl
 | succ i ih =>
  unfold zbE;rw[ih (fun j hj=>h j (by omega)),h i (by omega)]
theorem sits_out (S:Nat->zaf)(r i:Nat)(h:r<=i):zbE (Qf S r) i+(S r).many=zbE S (i+1):=by
 induction i with
 | zero =>
  have e:r=0:=by omega
  subst e
  rfl
 | succ i ih =>
  by_cases c:r=i+1
  ·subst c
   rw[zen (i+1) (fun j b=>Qn b)]
   rfl
  ·have a:=ih (by omega)
   rw[zbE,QP (by omega:r<=i)]
   rw[show zbE S (i+1+1)=zbE S (i+1)+(S (i+1)).many from rfl,← a]
   omega
theorem out_seats {most:Int}{n:Nat}{S:Nat->zaf}{r:Nat}(h:zbb most (n+1) S)(k:r<=n):zbb most n (Qf S r):=by
 obtain⟨j,hn,g,hf⟩:=h;refine⟨j,by omega,fun i hi=>?_,?_⟩
 ·by_cases c:i<r
  ·obtain⟨a,d,e⟩:=g i (by omega)
   rw[Qn c,zeQ];exact⟨a,fun f=>d (zem (by omega) f),e⟩
  ·obtain⟨a,d,e⟩:=g (i+1) (by omega)
   rw[QP (by omega),zeQ]
   exact⟨a,fun f=>d (zgU f),e⟩
 ·have b:=sits_out S r n k
  have c:=(g r (by omega)).2.2
  unfold In at c
  omega
def zcE (p:qi)(F:Nat->Int)(r:ZF):Prop :=
 In r.cab 0 ((p.n:Int) - 1)/\(r.all=true->F r.cab.toNat=p.B r.cab.toNat/\r.many=p.B r.cab.toNat)/\(r.all=false->In r.many 1 (F r.cab.toNat))
def RoomsI (p:qi)(n:Nat)(S:Nat->ZF):Prop :=
 zgR p/\n<=60/\∀ i,i<n->In (S i).who 1 9999/\¬ Has (zaW S) i (S i).who/\zcE p (qW p S i) (S i)
theorem zfY {S:Nat->ZF}{k i:Nat}(h:∀ j,j<i->(S j).cab≠(k:Int)):ZZ S k i=0:=by
 induction i with
 | zero=>rfl
 | succ i ih=>unfold ZZ;rw[ih (fun j hj=>h j (by omega)),if_neg (h i (by omega))];rfl
theorem left_le (p:qi)(S:Nat->ZF)(k i:Nat)(h:∀ j,j<i->In (S j).many 1 4):qW p S i k<=p.B k:=by
 have:=zck p S k 0 i (Nat.zero_le _) h;rw[zgQ] at this;exact this
theorem zgW {p:qi}{n:Nat}{S:Nat->ZF}(q:zgR p)(v:∀ i,i<n->zcE p (qW p S i) (S i)):∀ i,i<=n->(∀ j,j<i->In (S j).many 1 4)/\∀ k,k<p.n->0<=qW p S i k:=by
 intro i
 induction i with
 | zero =>
  intro _;refine⟨fun j t=>by omega,fun k c=>?_⟩
  have:=(q.2 k c).2;unfold In at this;rw[zgQ];omega
 | succ i ih =>
  intro hi;obtain⟨a,b⟩:=ih (by omega)
  obtain⟨o,g,h⟩:=v i (by omega)
  obtain⟨l,hl⟩:∃ l:Nat,(S i).cab=l:=⟨(S i).cab.toNat,by unfold In at o;omega⟩
  have d:l<p.n:=by unfold In at o;omega
  have s:(S i).cab.toNat=l:=by omega
  rw[s] at g h;have m:=(q.2 l d).2;have u:=left_le p S l i a;have f:=zbL p S i l hl;have r:In (S i).many 1 4/\0<=qW p S (i+1) l:=by
   cases hall:(S i).all with
   | true =>
    have:=g hall;unfold In at m ⊢
    omega
   | false =>
    have:=h hall;unfold In at m this ⊢
    omega
  refine⟨fun j t=>?_,fun k c=>?_⟩
  ·by_cases e:j=i
   ·subst e;exact r.1
   ·exact a j (by omega)
  ·by_cases e:k=l
   ·subst e;exact r.2
   ·rw[zeK p S i k (by rw[hl];omega)];exact b k c
theorem zgX {p:qi}{n:Nat}{S:Nat->ZF}(h:RoomsI p n S):QL p n S:=by
 obtain⟨r,hn,a⟩:=h;have st:=zgW r (fun i b=>(a i b).2.2)
 refine⟨r,hn,fun i b=>⟨⟨(a i b).1,(a i b).2.1,(a i b).2.2.1,(st n (Nat.le_refl _)).1 i b,fun c=>((a i b).2.2.2.1 c).2⟩,fun j hj x=>?_⟩,fun k y=>(st n (Nat.le_refl _)).2 k y⟩
 obtain⟨w,o,q⟩:=(a i b).2.2;obtain⟨_,k1,k2⟩:=(a j (by omega)).2.2
 obtain⟨l,hl⟩:∃ l:Nat,(S i).cab=l:=⟨(S i).cab.toNat,by unfold In at w;omega⟩
 have u:(S i).cab.toNat=l:=by omega
 have s:(S j).cab=(l:Int):=x.trans hl;have e:(S j).cab.toNat=l:=by omega
 rw[u] at o q;rw[e] at k1 k2;have f:=(st n (Nat.le_refl _)).1 j (by omega)
 have z:=left_le p S l j (fun t A=>(st n (Nat.le_refl _)).1 t (by omega))
 have m:=zbL p S j l s;have g:=zck p S l (j+1) i (by omega) (fun t A=>(st n (Nat.le_refl _)).1 t (by omega))
 unfold In at f;have d:(S i).all=false:=by
  cases c:(S i).all with
  | false=>rfl
  | true=>have:=(o c).1;omega
 refine⟨?_,d⟩
 cases c:(S j).all with
 | false=>rfl
 | true =>
  have:=k1 c;have v:=q d;unfold In at v
  omega
theorem zgY {p:qi}{n:Nat}{S:Nat->ZF}(h:QL p n S):RoomsI p n S:=by
 have v:=h.manys;obtain⟨s,hn,b,a⟩:=h;refine⟨s,hn,fun i t=>?_⟩
 obtain⟨⟨l,m,c,o,q⟩,r⟩:=b i t;refine⟨l,m,c,fun k=>⟨?_,q k⟩,fun _=>⟨o.1,?_⟩⟩
 ·have:ZZ S (S i).cab.toNat i=0:=zfY (fun j u e=>by
   have:=(r j u (by unfold In at c;omega)).2
   rw[k] at this;cases this)
  unfold qW;rw[this];omega
 ·have d:(S i).cab.toNat<p.n:=by unfold In at c;omega
  have g:=zbL p S i (S i).cab.toNat (by unfold In at c;omega)
  have f:=zck p S (S i).cab.toNat (i+1) n (by omega) v
  have:=a _ d
  omega
theorem rooms_few {p:qi}{n:Nat}{S:Nat->ZF}(h:QL p n S):n<=24:=by
 have v:=h.manys;obtain⟨r,hn,d,b⟩:=h;have a:∀ i,i<n->∃ l:Nat,(S i).cab=l/\l<p.n:=fun i s=>by
  have q:=(d i s).1.2.2.1;exact⟨(S i).cab.toNat,by unfold In at q;omega,by unfold In at q;omega⟩
 have hp:=r.1;have f:∀ i,i<=n->(i:Int)<=ZZ S 0 i+ZZ S 1 i+ZZ S 2 i+ZZ S 3 i+ZZ S 4 i+ZZ S 5 i:=by
  intro i
  induction i with
  | zero=>intro _;simp[ZZ]
  | succ i ih =>
   intro s;have:=ih (by omega)
   obtain⟨l,hl,m⟩:=a i (by omega)
   have o:=(v i (by omega)).1
   have g:l=0∨l=1∨l=2∨l=3∨l=4∨l=5:=by omega
   unfold ZZ;rw[hl]
   rcases g with rfl|rfl|rfl|rfl|rfl|rfl <;> simp <;> omega
 have c:∀ k,ZZ S k n<=4:=fun k=>by
  by_cases hk:k<p.n
  ·have o:=b k hk
   have t:=(r.2 k hk).2;unfold In at t;unfold qW at o
   omega
  ·rw[zfY (fun j u e=>by obtain⟨l,hl,m⟩:=a j u;rw[hl] at e;omega)];omega
 have:=f n (Nat.le_refl _);have:=c 0;have:=c 1;have:=c 2;have:=c 3;have:=c 4;have:=c 5
 omega
def zbz (len cl:Int)(r:Nat):Bool:=if r=2 then true else if r=0 then decide (0<len) else decide (0<cl)
theorem zcn (pe len hei cl be:Int)(all:Bool)(r:Nat)(w:World)(hr:r<3) :
  Calls Tryz.prog 138 #[.agg #[int i64 pe,int i64 len,int i64 hei,int i64 cl,.bool all,int i64 be],int i64 (r:Int)] w fun e w'=>e=.returned (.bool (zbz len cl r))/\Below w.heap.size w w':=by
 have c:=heap_alloc_new w (.cells #[int i64 pe,int i64 len,int i64 hei,int i64 cl,.bool all,int i64 be] 25);have a:Below w.heap.size w (w.alloc (.cells #[int i64 pe,int i64 len,int i64 hei,int i64 cl,.bool all,int i64 be] 25)):=zr bZ _;have y1:=za c 1 _ rfl;have y3:=za c 3 _ rfl;have d:r=0∨r=1∨r=2:=by omega
 clear c
 rcases d with rfl|rfl|rfl
 ·by_cases h:0<len
  ·have b:Hid (zbz len cl 0=true):=decide_eq_true h
   have d1:decide (0<len)=true:=decide_eq_true h;go_enter Tryz.func138,Tryz.ntmps138;go_wp2;go_ret;exact⟨by rw[b.out];rfl,a⟩
  ·have b:Hid (zbz len cl 0=false):=decide_eq_false h
   have d1:decide (0<len)=false:=decide_eq_false h;go_enter Tryz.func138,Tryz.ntmps138;go_wp2;go_ret;exact⟨by rw[b.out];rfl,a⟩
 ·by_cases h:0<cl
  ·have b:Hid (zbz len cl 1=true):=decide_eq_true h
   have d1:decide (0<cl)=true:=decide_eq_true h;go_enter Tryz.func138,Tryz.ntmps138;go_wp2;go_ret;exact⟨by rw[b.out];rfl,a⟩
  ·have b:Hid (zbz len cl 1=false):=decide_eq_false h
   have d1:decide (0<cl)=false:=decide_eq_false h;go_enter Tryz.func138,Tryz.ntmps138;go_wp2;go_ret;exact⟨by rw[b.out];rfl,a⟩
 ·go_enter Tryz.func138,Tryz.ntmps138
  go_wp2;go_ret;exact⟨rfl,a⟩
theorem ZE (x:Int)(w:World) :
  Calls Tryz.prog 119 #[int i64 x] w fun e w'=>e=.returned (.bool (decide (In x 1 9999)))/\w'=w:=by
 go_enter Tryz.func119,Tryz.ntmps119;go_wp2_with (first|(go_at_call 19;refine(zx _ _ _ _).mono ?_;rintro e w' ⟨rfl,rfl⟩))
 go_ret;exact⟨rfl,rfl⟩
section
open Go.RowKit
def QC (S:Nat->ZK)(k:Nat)(b:ZK)(i:Nat):ZK:=if i=k then b else S i
theorem Zn (S:Nat->ZK)(k:Nat)(b:ZK):QC S k b k=b:=if_pos rfl
theorem Qr (S:Nat->ZK)(k:Nat)(b:ZK){i:Nat}(h:i≠k):QC S k b i=S i:=if_neg h
theorem setB_setB (S:Nat->ZK)(k:Nat)(a b:ZK):QC (QC S k a) k b=QC S k b:=by
 funext i
 unfold QC
 split <;> rfl
def qA (b:ZK)(a:Int)(y:OpD):ZK :=
 if y.kind=4 then { b with state:=2,unt:=0 }
 else if y.kind=5 then { b with who:=a,lgn:=y.lgn,lg:=y.lg,pe:=y.pe,len:=y.len,hei:=y.hei,cl:=y.cl,all:=y.all,be:=y.be,price:=Zg ⟨y.pe,y.len,y.hei,y.cl,y.all,y.be⟩ y.lgn }
 else if y.kind=6 then { b with state:=3,unt:=0 }
 else if y.kind=7 then { b with own:=y.own }
 else { b with state:=4 }
def Qa (n:Nat)(a:Int)(y:OpD):ZK :=
 ⟨(n:Int)+1,a,y.own,y.lgn,y.lg,y.pe,y.len,y.hei,y.cl,y.all,y.be,if y.kind=2 then 1 else 2,if y.kind=2 then y.unt else 0,Zg ⟨y.pe,y.len,y.hei,y.cl,y.all,y.be⟩ y.lgn⟩
theorem zcs (sz:Nat)(a:0<sz){C C':Nat->List Value}{f:Nat->Value}{k:Nat}(b:∀ r,r<sz->f (k*sz+r)=(C' k).getD r (.bool false))(c:∀ j,j / sz≠k->f j=recCell sz C j)(d:∀ i,i≠k->C' i=C i)(j:Nat):f j=recCell sz C' j:=by
 by_cases e:j / sz=k
 ·have g:j=k*sz+j % sz:=by rw[← e,Nat.mul_comm];exact(Nat.div_add_mod j sz).symm
  rw[g,b _ (Nat.mod_lt _ a),zM sz _ _ _ (Nat.mod_lt _ a)]
 ·rw[c j e]
  unfold recCell;rw[d _ e]
section
variable {w w' : World} {base g c k N : Nat} {S : Nat -> ZK} {E : Nat -> Value} {u : Value} {y : ZK}
theorem Zj.put (h:Zj w base (.slice (some ⟨g,0,none⟩) N c) N S E)(z:zA w w' (fun b=>b=g))(f:w'.ownsRow base 131 13 (.slice (some ⟨g,0,none⟩) N c) N (Qp (QC S k y) (atV E k u) N))(hl:w.ownsRow base 3 1 u y.lgn (zJ y.lg y.lgn))(p:∀ i,i<N->i≠k->∀ b,(E i).ownBlock=some b->u.ownBlock≠some b) :
  Zj w' base (.slice (some ⟨g,0,none⟩) N c) N (QC S k y) (atV E k u):=by
 have far:∀ {n:Nat} {v:Value} {t:List Value},w.ownsRow base 3 1 v n t->w'.ownsRow base 3 1 v n t:=fun s=>z.own s (fun q m o=>own_apart h.row s (by decide) q (by rw[o];rfl) m)
 refine⟨f,fun i x=>?_,fun i j l r b d a=>?_⟩
 ·by_cases e:i=k
  ·subst e;rw[atV_at,Zn];exact far hl
  ·rw[atV_ne _ _ _ _ e,Qr _ _ _ e];exact far (h.legs i x)
 ·by_cases e:i=k
  ·subst e
   rw[atV_at] at d;rw[atV_ne _ _ _ _ (by omega)] at a
   exact p j r (by omega) b a d
  ·rw[atV_ne _ _ _ _ e] at d
   by_cases e2:j=k
   ·subst e2
    rw[atV_at] at a;exact p i (by omega) e b d a
   ·rw[atV_ne _ _ _ _ e2] at a
    exact h.apart i j l r b d a
theorem Zj.far_same (h:Zj w base (.slice (some ⟨g,0,none⟩) N c) N S E)(j:k<N):∀ i,i<N->i≠k->∀ b,(E i).ownBlock=some b->(E k).ownBlock≠some b:=fun i f a b d e=>by
 rcases Nat.lt_or_gt_of_ne a with c|c
 ·exact h.apart i k c j b d e
 ·exact h.apart k i c f b e d
end
section
variable {w w' : World} {base g c k n1 n2 n3 : Nat} {v1 v2 u : Value} {x : Off} {L C A B D E : Nat -> Value} {y : ZK}
theorem zV.putBk (h:zV w base v1 v2 (.slice (some ⟨g,0,none⟩) n3 c) n1 n2 n3 x L C A B D E)(f:zA w w' (fun b=>b=g))(a:w'.ownsRow base 131 13 (.slice (some ⟨g,0,none⟩) n3 c) n3 (Qp (QC x.bk k y) (atV E k u) n3))(hl:w.ownsRow base 3 1 u y.lgn (zJ y.lg y.lgn))(j:∀ i,i<n3->i≠k->∀ b,(E i).ownBlock=some b->u.ownBlock≠some b) :
  zV w' base v1 v2 (.slice (some ⟨g,0,none⟩) n3 c) n1 n2 n3 { x with bk:=QC x.bk k y } L C A B D (atV E k u) :=
 ⟨h.sa.other f (fun q e=>by obtain⟨cs,d⟩:=zT h.bk.row q (by rw[show q=g from e];rfl);exact⟨cs,_,d,by decide,by decide,by decide⟩),h.ld.other f (fun q e=>by obtain⟨cs,d⟩:=zT h.bk.row q (by rw[show q=g from e];rfl);exact⟨cs,_,d,by decide,by decide,by decide,by decide⟩),h.bk.put f a hl j⟩
end
def zbf (g base N d c:Nat)(b a:Option Addr)(T:Nat->Prop)(f:Off)(code name price:Int)(h:World->Value->Prop)(L C A B D:Nat->Value)(w:World)(e:Ending)(w':World):Prop :=
 ∃ abk cbk rv E,e=.returned (.agg #[int i64 code,int i64 name,int i64 price,rv])/\h w' rv/\zV w' base (.slice b N d) (.slice a N c) (.slice abk f.bkn cbk) N N f.bkn f L C A B D E /\
  w'.heap[g]?=some (.cells #[.slice b N d,.slice a N c,.slice abk f.bkn cbk] 66 (0,0))/\zA w w' T
theorem zeV {w:World}{g t:Nat}{u0 u1 u2 u3:Value}(h:w.heap[g]?=some (.cells #[u0,u1,u2,u3] t (0,0)))(a b c d:Value):((((w.setCell ⟨g,0,none⟩ a).setCell ⟨g,1,none⟩ b).setCell ⟨g,2,none⟩ c).setCell ⟨g,3,none⟩ d).heap[g]?=some (.cells #[a,b,c,d] t (0,0)):=by
 simpa using zy (zy (zy (zy h 0 a) 1 b) 2 c) 3 d
theorem QQ (w:World)(g:Nat)(c d e f:Value):zA w ((((w.setCell ⟨g,0,none⟩ c).setCell ⟨g,1,none⟩ d).setCell ⟨g,2,none⟩ e).setCell ⟨g,3,none⟩ f) (fun b=>b=g):=((((zA.refl w (fun b=>b=g)).set (a:=⟨g,0,none⟩) rfl c).set (a:=⟨g,1,none⟩) rfl d).set (a:=⟨g,2,none⟩) rfl e).set (a:=⟨g,3,none⟩) rfl f
theorem ans_at2 {w:World}{g t:Nat}{u0 u1 u2 u3:Value}(h:w.heap[g]?=some (.cells #[u0,u1,u2,u3] t (0,0)))(v:Value):(w.setCell ⟨g,2,none⟩ v).heap[g]?=some (.cells #[u0,u1,v,u3] t (0,0)):=by simpa using zy h 2 v
theorem keptN {w w':World}{T:Nat->Prop}(h:zA w w' T){b i:Nat}(hb:w.heap.size<=b)(u:Value):zA w (w'.setCell ⟨b,i,none⟩ u) T :=
 ⟨h.os,h.tape,h.output,by have:=h.size;simpa using this,fun k a c=>(Below.heap_setCell w' ⟨b,i,none⟩ u k (by show k≠b;omega)).trans (h.block k a c)⟩
theorem ints_off {w w':World}{c:Option Addr}{n base d:Nat}{F:Nat->Int}(i:zA w w' (fun b=>b=d))(h:IntsAt w c n F)(f:0<n->∀ a,c=some a->a.block<base)(hg:base<=d):IntsAt w' c n F:=fun k e=>by
 obtain⟨b,off,rfl,g⟩:=h k e;have hb:b<base:=f (by omega) _ rfl
 have j:=i.block b (World.block_lt_of_cell? w _ g) (by show ¬ b=d;omega)
 refine⟨b,off,rfl,?_⟩;rw[← g];unfold World.cell?;simp only[j]
theorem ZN {w w':World}{T:Nat->Prop}(h:zA w w' T){a:Addr}{v:Value}(b:w.cell? a=some v)(c:¬ T a.block):w'.cell? a=some v:=by
 have:=h.block a.block (World.block_lt_of_cell? w _ b) c;unfold World.cell? at b ⊢;rw[this];exact b
theorem Q0 {w Z:World}{T:Nat->Prop}{g c base n o n3:Nat}{s t u p q r u0 u1 u2 u3:Value}{x:Off}{L C A B D E:Nat->Value}(d:zA w Z T)(h:zV Z base s t u n o n3 x L C A B D E)(m:Z.heap[g]?=some (.cells #[p,q,r] 66 (0,0)))(b:Z.heap[c]?=some (.cells #[u0,u1,u2,u3] 127 (0,0)))(a:w.heap.size<=c)(i j k l:Value){F:World}(v:F=(((Z.setCell ⟨c,0,none⟩ i).setCell ⟨c,1,none⟩ j).setCell ⟨c,2,none⟩ k).setCell ⟨c,3,none⟩ l) :
  zV F base s t u n o n3 x L C A B D E/\F.heap[g]?=some (.cells #[p,q,r] 66 (0,0))/\zA w F T/\F.heap[c]?=some (.cells #[i,j,k,l] 127 (0,0)):=by
 subst v;have f:g≠c:=fun e=>by subst e;rw[m] at b;simp at b
 exact⟨h.box (QQ _ _ _ _ _ _) b (by decide),(QQ _ _ _ _ _ _).blk m f,keptN (keptN (keptN (keptN d a _) a _) a _) a _,zeV b _ _ _ _⟩
theorem zdo {w Z:World}{T:Nat->Prop}{g f tb base o q n3:Nat}{z G H r s t u0 u1 u2 u3 u v J y:Value}{x:Off}{L C A B D E:Nat->Value}(j:zA w Z T)(l:zV Z base z G H o q n3 x L C A B D E)(n:Z.heap[g]?=some (.cells #[r,s,t] 66 (0,0)))(h:Z.heap[f]?=some (.cells #[u0,u1,u2,u3] 127 (0,0)))(c:Z.heap[tb]?=some (.cells #[u,v,J,y] 127 (0,0)))(d:f≠tb)(m:w.heap.size<=tb)(p:Value){F:World}(I:F=Z.setCell ⟨tb,2,none⟩ p) :
  zV F base z G H o q n3 x L C A B D E/\F.heap[g]?=some (.cells #[r,s,t] 66 (0,0))/\zA w F T/\F.heap[f]?=some (.cells #[u0,u1,u2,u3] 127 (0,0))/\F.heap[tb]?=some (.cells #[u,v,p,y] 127 (0,0)):=by
 subst I;have k:g≠tb:=fun e=>by subst e;rw[n] at c;simp at c
 have i:zA Z (Z.setCell ⟨tb,2,none⟩ p) (fun b=>b=tb):=(zA.refl Z (fun b=>b=tb)).set (a:=⟨tb,2,none⟩) rfl p
 exact⟨l.box i c (by decide),i.blk n k,keptN j m _,i.blk h d,ans_at2 c p⟩
end
theorem zih (x y:Int)(w:World) :
  Calls Tryz.prog 155 #[int i64 x,int i64 y] w fun e w'=>e=.returned (int i64 (Qo x y))/\w'=w:=by
 obtain⟨V,g⟩:∃ V,V=Qo x y:=⟨_,rfl⟩;rw[← g];have c:=hI g;clear g
 by_cases h0:Q3 x y
 ·have k:decide (Q3 x y)=true:=decide_eq_true h0
  have d:=hI h0;have j:=hI h0.1;clear h0
  by_cases h1:600<x
  ·have l:decide (600<x)=true:=decide_eq_true h1
   have b:450<x:=by omega
   have h:decide (450<x)=true:=decide_eq_true b;have i:=j.out;unfold In at i;have m:IntKind.i64.wrap (x - 600)=x - 600:=by rw[IntKind.wrap_i64];omega
   have n:IntKind.i64.wrap (x - 600+99)=x - 600+99:=by rw[IntKind.wrap_i64];omega
   have hq:Int.tdiv (x - 600+99) 100=(x - 600+99) / 100:=by rw[Int.tdiv_eq_ediv_of_nonneg (by omega)]
   have o:IntKind.i64.wrap ((x - 600+99) / 100)=(x - 600+99) / 100:=by rw[IntKind.wrap_i64];omega
   have p:IntKind.i64.wrap (25*((x - 600+99) / 100))=25*((x - 600+99) / 100):=by rw[IntKind.wrap_i64];omega
   have q:IntKind.i64.wrap (90+25*((x - 600+99) / 100))=90+25*((x - 600+99) / 100):=by rw[IntKind.wrap_i64];omega
   have r:IntKind.i64.wrap (90+25*((x - 600+99) / 100)+30)=90+25*((x - 600+99) / 100)+30:=by rw[IntKind.wrap_i64];omega
   clear i
   by_cases h5:220<y
   ·have f:decide (220<y)=true:=decide_eq_true h5
    have a:Hid (V=90+25*((x - 600+99) / 100)+30):=by show V=90+25*((x - 600+99) / 100)+30;rw[c.out];unfold Qo;rw[if_pos d.out];simp only[if_pos h1,if_pos h5];(try omega)
    rw[a.out];go_enter Tryz.func155,Tryz.ntmps155;go_wp2_with (first|(go_at_call 90;refine sC (qE _ _ _) ?_))
    go_ret;exact⟨rfl,rfl⟩
   ·have f:decide (220<y)=false:=decide_eq_false h5
    have a:Hid (V=90+25*((x - 600+99) / 100)):=by show V=90+25*((x - 600+99) / 100);rw[c.out];unfold Qo;rw[if_pos d.out];simp only[if_pos h1,if_neg h5];(try omega)
    rw[a.out];go_enter Tryz.func155,Tryz.ntmps155;go_wp2_with (first|(go_at_call 90;refine sC (qE _ _ _) ?_))
    go_ret;exact⟨rfl,rfl⟩
  ·have l:decide (600<x)=false:=decide_eq_false h1
   by_cases b:450<x
   ·have h:decide (450<x)=true:=decide_eq_true b
    by_cases h5:220<y
    ·have f:decide (220<y)=true:=decide_eq_true h5
     have a:Hid (V=90+30):=by show V=90+30;rw[c.out];unfold Qo;rw[if_pos d.out];simp only[if_neg h1,if_pos b,if_pos h5];(try omega)
     rw[a.out];go_enter Tryz.func155,Tryz.ntmps155;go_wp2_with (first|(go_at_call 90;refine sC (qE _ _ _) ?_))
     go_ret;exact⟨rfl,rfl⟩
    ·have f:decide (220<y)=false:=decide_eq_false h5
     have a:Hid (V=90):=by show V=90;rw[c.out];unfold Qo;rw[if_pos d.out];simp only[if_neg h1,if_pos b,if_neg h5];(try omega)
     rw[a.out];go_enter Tryz.func155,Tryz.ntmps155;go_wp2_with (first|(go_at_call 90;refine sC (qE _ _ _) ?_))
     go_ret;exact⟨rfl,rfl⟩
   ·have h:decide (450<x)=false:=decide_eq_false b
    by_cases h5:220<y
    ·have f:decide (220<y)=true:=decide_eq_true h5
     have a:Hid (V=60+30):=by show V=60+30;rw[c.out];unfold Qo;rw[if_pos d.out];simp only[if_neg h1,if_neg b,if_pos h5];(try omega)
     rw[a.out];go_enter Tryz.func155,Tryz.ntmps155;go_wp2_with (first|(go_at_call 90;refine sC (qE _ _ _) ?_))
     go_ret;exact⟨rfl,rfl⟩
    ·have f:decide (220<y)=false:=decide_eq_false h5
     have a:Hid (V=60):=by show V=60;rw[c.out];unfold Qo;rw[if_pos d.out];simp only[if_neg h1,if_neg b,if_neg h5];(try omega)
     rw[a.out];go_enter Tryz.func155,Tryz.ntmps155;go_wp2_with (first|(go_at_call 90;refine sC (qE _ _ _) ?_))
     go_ret;exact⟨rfl,rfl⟩
 ·have k:decide (Q3 x y)=false:=decide_eq_false h0
  have a:Hid (V=0):=by rw[c.out];exact if_neg h0
  rw[a.out];clear h0;go_enter Tryz.func155,Tryz.ntmps155;go_wp2_with (first|(go_at_call 90;refine sC (qE _ _ _) ?_))
  go_ret;exact⟨rfl,rfl⟩
theorem zeW (cl:Int)(all:Bool)(be:Int)(w:World) :
  Calls Tryz.prog 156 #[int i64 cl,.bool all,int i64 be] w fun e w'=>e=.returned (int i64 (ZY cl all be))/\Below w.heap.size w w':=by
 obtain⟨V,g⟩:∃ V,V=ZY cl all be:=⟨_,rfl⟩;rw[← g];have b:=hI g;clear g
 by_cases h1:In cl 1 3
 ·have k:decide (In cl 1 3)=true:=decide_eq_true h1
  have c:=hI h1
  cases all with
  | true =>
   by_cases h2:be=0
   ·subst h2
    have f:cl=1∨cl=2∨cl=3:=by unfold In at h1;omega
    clear h1
    rcases f with rfl|rfl|rfl
    ·have a:Hid (V=90):=by show V=90;rw[b.out];exact if_pos ⟨c.out,.inl ⟨rfl,rfl⟩⟩
     rw[a.out];go_enter Tryz.func156,Tryz.ntmps156;go_wp2_with (first|(go_at_call 19;refine sC (zx _ _ _ _) ?_))
     go_ret;exact⟨rfl,zr bZ _⟩
    ·have a:Hid (V=150):=by show V=150;rw[b.out];exact if_pos ⟨c.out,.inl ⟨rfl,rfl⟩⟩
     rw[a.out];go_enter Tryz.func156,Tryz.ntmps156;go_wp2_with (first|(go_at_call 19;refine sC (zx _ _ _ _) ?_))
     go_ret;exact⟨rfl,zr bZ _⟩
    ·have a:Hid (V=240):=by show V=240;rw[b.out];exact if_pos ⟨c.out,.inl ⟨rfl,rfl⟩⟩
     rw[a.out];go_enter Tryz.func156,Tryz.ntmps156;go_wp2_with (first|(go_at_call 19;refine sC (zx _ _ _ _) ?_))
     go_ret;exact⟨rfl,zr bZ _⟩
   ·have i:(be == 0)=false:=by simpa using h2
    have e3:(be != 0)=true:=by simpa using h2
    have a:Hid (V=0):=by rw[b.out];exact if_neg (fun h=>by rcases h.2 with h|h;exact h2 h.2;cases h.1)
    rw[a.out];clear h1 h2;go_enter Tryz.func156,Tryz.ntmps156;go_wp2_with (first|(go_at_call 19;refine sC (zx _ _ _ _) ?_))
    go_ret;exact⟨rfl,bZ⟩
  | false =>
   by_cases h2:In be 1 4
   ·have i:decide (In be 1 4)=true:=decide_eq_true h2
    have d:=hI h2;have f:cl=1∨cl=2∨cl=3:=by unfold In at h1;omega
    have h4:1<=be/\be<=4:=h2;clear h1 h2
    rcases f with rfl|rfl|rfl
    ·have a:Hid (V=30*be):=by show V=30*be;rw[b.out];unfold ZY;rw[if_pos ⟨c.out,.inr ⟨rfl,d.out⟩⟩];rfl
     rw[a.out];have j:IntKind.i64.wrap (30*be)=30*be:=by rw[IntKind.wrap_i64];omega
     go_enter Tryz.func156,Tryz.ntmps156;go_wp2_with (first|(go_at_call 19;refine sC (zx _ _ _ _) ?_))
     go_ret;exact⟨rfl,zr bZ _⟩
    ·have a:Hid (V=50*be):=by show V=50*be;rw[b.out];unfold ZY;rw[if_pos ⟨c.out,.inr ⟨rfl,d.out⟩⟩];rfl
     rw[a.out];have j:IntKind.i64.wrap (50*be)=50*be:=by rw[IntKind.wrap_i64];omega
     go_enter Tryz.func156,Tryz.ntmps156;go_wp2_with (first|(go_at_call 19;refine sC (zx _ _ _ _) ?_))
     go_ret;exact⟨rfl,zr bZ _⟩
    ·have a:Hid (V=80*be):=by show V=80*be;rw[b.out];unfold ZY;rw[if_pos ⟨c.out,.inr ⟨rfl,d.out⟩⟩];rfl
     rw[a.out];have j:IntKind.i64.wrap (80*be)=80*be:=by rw[IntKind.wrap_i64];omega
     go_enter Tryz.func156,Tryz.ntmps156;go_wp2_with (first|(go_at_call 19;refine sC (zx _ _ _ _) ?_))
     go_ret;exact⟨rfl,zr bZ _⟩
   ·have i:decide (In be 1 4)=false:=decide_eq_false h2
    have a:Hid (V=0):=by rw[b.out];exact if_neg (fun h=>by rcases h.2 with h|h;cases h.1;exact h2 h.2)
    rw[a.out];clear h1 h2;go_enter Tryz.func156,Tryz.ntmps156;go_wp2_with (first|(go_at_call 19;refine sC (zx _ _ _ _) ?_))
    go_ret;exact⟨rfl,bZ⟩
 ·have k:decide (In cl 1 3)=false:=decide_eq_false h1
  have a:Hid (V=0):=by rw[b.out];exact if_neg (fun h=>h1 h.1)
  rw[a.out];clear h1
  cases all with
  | true =>
   go_enter Tryz.func156,Tryz.ntmps156;go_wp2_with (first|(go_at_call 19;refine sC (zx _ _ _ _) ?_))
   go_ret;exact⟨rfl,bZ⟩
  | false =>
   go_enter Tryz.func156,Tryz.ntmps156;go_wp2_with (first|(go_at_call 19;refine sC (zx _ _ _ _) ?_))
   go_ret;exact⟨rfl,bZ⟩
theorem zeX (x y:Int)(w:World) :
  Calls Tryz.prog 145 #[int i64 x,int i64 y] w fun e w'=>e=.returned (int i64 (Qs x y))/\w'=w:=by
 obtain⟨V,d⟩:∃ V,V=Qs x y:=⟨_,rfl⟩;rw[← d];have b:=hI d;clear d
 by_cases h1:In x 0 1000000
 ·have f:decide (In x 0 1000000)=true:=decide_eq_true h1
  by_cases h2:In y (-10000) 10000
  ·have g:decide (In y (-10000) 10000)=true:=decide_eq_true h2
   have k:0<=x:=h1.1;have l:x<=1000000:=h1.2;have c:Hid (In x 0 1000000/\In y (-10000) 10000):=⟨h1,h2⟩;clear h1 h2
   by_cases h3:100<=y
   ·have i:decide (100<=y)=true:=decide_eq_true h3
    have a:Hid (V=x):=by show V=x;rw[b.out];unfold Qs;rw[if_pos c.out,if_pos h3]
    rw[a.out];clear h3;go_enter Tryz.func145,Tryz.ntmps145;go_wp2_with (first|(go_at_call 19;refine sC (zx _ _ _ _) ?_))
    go_ret;exact⟨rfl,rfl⟩
   ·have i:decide (100<=y)=false:=decide_eq_false h3
    by_cases h4:20<=y
    ·have j:decide (20<=y)=true:=decide_eq_true h4
     have a:Hid (V=x / 2):=by show V=x / 2;rw[b.out];unfold Qs;rw[if_pos c.out,if_neg h3,if_pos h4]
     have hq:Int.tdiv x 2=x / 2:=by rw[Int.tdiv_eq_ediv_of_nonneg k]
     have m:IntKind.i64.wrap (x / 2)=x / 2:=by rw[IntKind.wrap_i64];omega
     rw[a.out];clear h3 h4;go_enter Tryz.func145,Tryz.ntmps145;go_wp2_with (first|(go_at_call 19;refine sC (zx _ _ _ _) ?_))
     go_ret;exact⟨rfl,rfl⟩
    ·have j:decide (20<=y)=false:=decide_eq_false h4
     have a:Hid (V=0):=by show V=0;rw[b.out];unfold Qs;rw[if_pos c.out,if_neg h3,if_neg h4]
     rw[a.out];clear h3 h4;go_enter Tryz.func145,Tryz.ntmps145;go_wp2_with (first|(go_at_call 19;refine sC (zx _ _ _ _) ?_))
     go_ret;exact⟨rfl,rfl⟩
  ·have g:decide (In y (-10000) 10000)=false:=decide_eq_false h2
   have a:Hid (V=0):=by rw[b.out];exact if_neg (fun h=>h2 h.2)
   rw[a.out];clear h1 h2;go_enter Tryz.func145,Tryz.ntmps145;go_wp2_with (first|(go_at_call 19;refine sC (zx _ _ _ _) ?_))
   go_ret;exact⟨rfl,rfl⟩
 ·have f:decide (In x 0 1000000)=false:=decide_eq_false h1
  have a:Hid (V=0):=by rw[b.out];exact if_neg (fun h=>h1 h.1)
  rw[a.out];clear h1;go_enter Tryz.func145,Tryz.ntmps145;go_wp2_with (first|(go_at_call 19;refine sC (zx _ _ _ _) ?_))
  go_ret;exact⟨rfl,rfl⟩
end Go.Proofs.YtfallpinmhbemaaGreatDoor

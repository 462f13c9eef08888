/-
  OWN TEXT: SeatsI, PlainHj, HasI, PanI, IsI, CodeE, MayI.
-/
import Derived.Deep.LoopGhost
import Derived.Deep.DeepCutAuto
import Derived.Test.YtmdnjgihooflfaaGreatDoorChecked
import Derived.WalkLawsBesides
import Derived.Defers
import Derived.Recover
import Derived.Shelf.Abstract
import Derived.LaidEql
import Derived.Stop.Asserts
import Derived.RowKitTokens
import Derived.Test.YtmdnjgihooflfaaGreatDoorB17
namespace Go.Proofs.YtmdnjgihooflfaaGreatDoor
open Go.RowKit
open Go.Value (int)
open Go.IntKind (i64)
set_option maxHeartbeats 64000000
set_option maxRecDepth 100000
theorem zlY (bo:Option Addr)(n c:Nat)(S:Nat->Qe)(x many:Int)(w:World)(hn:n<=1048576)(I:qE w bo n S)(g:bo=none->n=0/\c=0) :
  Calls Tryz.prog 291 #[.slice bo n c,.agg #[int i64 x,int i64 many]] w fun e w'=>(∃ v,e=.returned v/\w'.ownsRow w.heap.size 234 2 v (n+1) (zB (Ze S n x many) (n+1)))/\Below w.heap.size w w':=by
 obtain⟨U,J,D,u,E⟩:=info_parts Tryz.infoSeat;have R:=hI I;have A:=hI g;clear I g;have T:IntKind.i64.wrap ((n:Int)+1)=((n+1:Nat):Int):=by rw[IntKind.wrap_i64];omega
 have q:(Tryz.prog.info? 234).map (·.size)=some 2:=by rw[J];simp[u]
 have p:=zk (Below.refl _ w) (.cells #[int i64 x,int i64 many] 234);have K:=heap_alloc_new w (.cells #[int i64 x,int i64 many] 234);go_enter Tryz.func291,Tryz.ntmps291;go_upto_region 2 with(first|(at_make;refine wpList_make_full _ rfl _ _ 143 rfl w.heap.size 234 U _ 2 Tryz.underlying143 J D u .i64 .i64 _ _ (n+1) rfl rfl (by simp) (by simp) (by rw[E];omega) (by unfold maxLen;omega) (by simp) ?_;intro M f a))
 have l:Below w.heap.size w M:=p.grown a (by simp) (fun j G=>by cases G)
 have L:=zjB a K (by simp)
 obtain⟨k,d,t⟩:=own_row f;have O:=hI (zaP (R.out.below l));have B:=hI L;have y:=hI l;clear f a K p L l;rw[World.size_alloc] at d;obtain⟨F,H,s,m⟩:=copy_k (P:=Tryz.prog) M 143 143 234 (w.heap.size+1) (n+1) (n+1) bo n c k 234 (zB S n) 2 Tryz.underlying143 q d (by omega) (Zo _ _) A.out O.out (by rw[Zo,t];omega) (zar _ _)
 have b:=zhY s (N:=(n+1)*2) (by simp[Zo,t];omega)
 have h:F.heap[w.heap.size]?=some (.cells #[int i64 x,int i64 many] 234 (0,0)):=(m.block _ (by omega)).trans B.out
 have o0:=za h 0 _ rfl;have o1:=za h 1 _ rfl;have V:=b.cell (i:=n*2) (by omega)
 have W:=b.cell (i:=n*2+1) (by omega)
 have f0:=b.frozen (n*2);have f1:=b.frozen (n*2+1);have i1:(0:Int)<=(n:Int):=by omega
 have i2:(n:Int)<((n+1:Nat):Int):=by omega
 have z:Hid (Below w.heap.size w F):=y.out.trans (m.mono (by omega))
 have C:=hI b;clear s m b h d;generalize List.getD (zB S n++k.toList.drop (zB S n).length) (n*2) (.bool false)=u0 at V;generalize List.getD (zB S n++k.toList.drop (zB S n).length) (n*2+1) (.bool false)=u1 at W;have Q:Hid (((F.setCell ⟨w.heap.size+1,n*2,none⟩ (int i64 x)).setCell ⟨w.heap.size+1,n*2+1,none⟩ (int i64 many)).rowIs (w.heap.size+1) 234 ((n+1)*2) (qL (Ze S n x many))):=by
  refine((C.out.set (n*2) _).set (n*2+1) _).congr (fun j G=>?_)
  have r:Ze S n x many n=⟨x,many⟩:=by unfold Ze zam;rw[if_neg (Nat.lt_irrefl _)]
  by_cases h1:j=n*2+1
  ·subst h1;rw[if_pos rfl,zaO,r]
  rw[if_neg h1]
  by_cases h0:j=n*2
  ·subst h0;rw[if_pos rfl,zaN,r]
  rw[if_neg h0];have o:j<(zB S n).length:=by rw[Zo];omega
  rw[List.getD_eq_getElem?_getD,List.getElem?_append_left o,List.getElem?_eq_getElem o,Option.getD_some];have:=zfB (List.getElem?_eq_getElem o);rw[this.2];unfold qL Ze zam;rw[if_pos (show j / 2<n by omega)]
 go_wp2;go_ret;exact⟨⟨_,rfl,Zz Q.out (by omega) (by unfold maxLen;omega)⟩,(z.out.setCell (by show w.heap.size<=w.heap.size+1;omega) _).setCell (by show w.heap.size<=w.heap.size+1;omega) _⟩
theorem ziT (most:Int)(bo:Option Addr)(n c:Nat)(S:Nat->Qe)(x many:Int)(w:World)(u:n<=1048576)(t:n<=c)(r:qE w bo n S)(b:bo=none->n=0/\c=0) :
  Calls Tryz.prog 284 #[int i64 most,.slice bo n c,int i64 x,int i64 many] w fun e w'=>zge w' w.heap.size 234 most n S x many e/\Below w.heap.size w w':=by
 have s:=hI r;have k:=hI b;clear r b;go_enter Tryz.func284,Tryz.ntmps284;go_wp2_with fail;refine(zlY bo n c S x many _ u s.out k.out).mono ?_;rintro e w1 ⟨⟨v,rfl,d⟩,m⟩;obtain⟨p,c1,rfl,o,_⟩:=zp d;have f:=hI d;clear d;go_wp2_with fail;refine(zeG most p (n+1) c1 (Ze S n x many) _ (by omega) o (QS f.out)).mono ?_
 rintro e w7 ⟨⟨q,rfl,j⟩,i⟩;have g:=ze m i;have l:=hI (zo i f.out)
 cases q with
 | false =>
  have a:Hid (¬ Qx most (n+1) (Ze S n x many)):=fun h=>by have:=j.2 h;cases this
  clear j;go_wp2;exact bodyPost_ret (v:=.tuple #[.slice none 0 0,.bool false]) (by simp[results,Tryz.results284,go_sem]) rfl ⟨zlM (fun h=>a.out h.2),g⟩
 | true =>
  have a:Hid (Qx most (n+1) (Ze S n x many)):=j.1 rfl;clear j;go_wp2;exact bodyPost_ret (v:=.tuple #[.slice p (n+1) c1,.bool true]) (by simp[results,Tryz.results284,go_sem]) rfl ⟨zke ⟨zkF a.out,a.out⟩ l.out,g⟩
section
open Go.RowKit Classical
noncomputable def onL (P:Nat->Prop):Nat->List Nat
 | 0=>[]
 | n+1=>if P n then onL P n++[n] else onL P n
theorem zbZ {P:Nat->Prop}{n:Nat}(h:P n):onL P (n+1)=onL P n++[n]:=by rw[onL,if_pos h]
theorem zfJ {P:Nat->Prop}{n:Nat}(h:¬ P n):onL P (n+1)=onL P n:=by rw[onL,if_neg h]
noncomputable def onI (P:Nat->Prop)(n j:Nat):Nat:=(onL P n).getD j 0
theorem zdV (P:Nat->Prop){n:Nat}(h:P n):onI P (n+1) (onL P n).length=n:=by unfold onI;rw[zbZ h];simp
theorem zcQ (P:Nat->Prop){n j:Nat}(a:j<(onL P n).length):onI P (n+1) j=onI P n j:=by
 unfold onI
 by_cases h:P n
 ·rw[zbZ h,List.getD_eq_getElem?_getD,List.getD_eq_getElem?_getD,List.getElem?_append_left a]
 ·rw[zfJ h]
theorem ziU (P:Nat->Prop)(n:Nat):(onL P n).length=cnt P n:=by
 induction n with
 | zero=>rfl
 | succ n ih =>
  by_cases h:P n
  ·rw[zbZ h,Qy h,List.length_append,ih];rfl
  ·rw[zfJ h,zae h,ih]
theorem zmJ (P:Nat->Prop)(n:Nat):∀ j,j<(onL P n).length->onI P n j<n/\P (onI P n j):=by
 induction n with
 | zero=>intro j a;simp[onL] at a
 | succ n ih =>
  intro j a
  by_cases h:P n
  ·rw[zbZ h,List.length_append] at a
   by_cases e:j=(onL P n).length
   ·subst e;rw[zdV P h];exact⟨by omega,h⟩
   ·have b:j<(onL P n).length:=by simp at a;omega
    rw[zcQ P b];have:=ih j b;exact⟨by omega,this.2⟩
  ·rw[zfJ h] at a
   rw[zcQ P a];have:=ih j a;exact⟨by omega,this.2⟩
theorem onI_all (P:Nat->Prop)(n:Nat):∀ i,i<n->P i->∃ j,j<(onL P n).length/\onI P n j=i:=by
 induction n with
 | zero=>intro i c;omega
 | succ n ih =>
  intro i c a
  by_cases e:i=n
  ·subst e
   exact⟨(onL P i).length,by rw[zbZ a];simp,zdV P a⟩
  ·obtain⟨j,b,d⟩:=ih i (by omega) a
   refine⟨j,?_,by rw[zcQ P b];exact d⟩
   by_cases h:P n
   ·rw[zbZ h,List.length_append];omega
   ·rw[zfJ h];exact b
theorem zeH {P Q:Nat->Prop}{n:Nat}(h:∀ i,i<n->(P i↔Q i)):cnt P n=cnt Q n:=by
 induction n with
 | zero=>rfl
 | succ n ih =>
  have i1:=ih (fun i hi=>h i (by omega))
  have h1:=h n (by omega)
  by_cases c:P n
  ·rw[Qy c,Qy (h1.1 c),i1]
  ·rw[zae c,zae (fun q=>c (h1.2 q)),i1]
theorem cnt_on (P Q:Nat->Prop)(n:Nat):cnt (fun j=>Q (onI P n j)) (onL P n).length=cnt (fun i=>P i/\Q i) n:=by
 induction n with
 | zero=>rfl
 | succ n ih =>
  have a:cnt (fun j=>Q (onI P (n+1) j)) (onL P n).length=cnt (fun i=>P i/\Q i) n:=by
   rw[← ih];exact zeH (fun j b=>by rw[zcQ P b])
  by_cases h:P n
  ·rw[show(onL P (n+1)).length=(onL P n).length+1 by rw[zbZ h];simp]
   by_cases q:Q n
   ·rw[Qy (P:=fun j=>Q (onI P (n+1) j)) (by rw[zdV P h];exact q),Qy (P:=fun i=>P i/\Q i) ⟨h,q⟩,a]
   ·rw[zae (P:=fun j=>Q (onI P (n+1) j)) (by rw[zdV P h];exact q),zae (P:=fun i=>P i/\Q i) (fun c=>q c.2),a]
  ·rw[zfJ h,zae (P:=fun i=>P i/\Q i) (fun c=>h c.1)]
   rw[← ih];exact zeH (fun j b=>by rw[zcQ P b])
def zcR (b:ql):Prop:=b.len=0/\b.hei=0
instance (b:ql):Decidable (zcR b):=by unfold zcR;exact inferInstance
def zca (b:ql):Prop:=b.cl=0/\b.all=false/\b.be=0
instance (b:ql):Decidable (zca b):=by unfold zca;exact inferInstance
def zfQ (l:zY)(b:ql):Prop:=zcR b∨(zaj (Qc l.st) b.who l.stn<l.stn/\(l.st (zaj (Qc l.st) b.who l.stn)).len=b.len/\(l.st (zaj (Qc l.st) b.who l.stn)).hei=b.hei)
def zeI (s:Zj)(l:zY)(b:ql):Prop:=zca b∨(zaj (ZV l.ro) b.who l.ron<l.ron/\(l.ro (zaj (ZV l.ro) b.who l.ron)).all=b.all/\(b.all=true∨(l.ro (zaj (ZV l.ro) b.who l.ron)).many=b.be)/\s.ca.A (l.ro (zaj (ZV l.ro) b.who l.ron)).cab.toNat=b.cl)
def zfR (l:zY)(b:ql):Prop:=zaj (zag l.se) b.who l.sen<l.sen/\(l.se (zaj (zag l.se) b.who l.sen)).many=b.pe
def Holds (s:Zj)(l:zY)(b:ql):Prop:=zfQ l b/\zeI s l b/\zfR l b
def zgV (s:Zj)(l:zY)(m:Nat)(B:Nat->ql):Prop :=
 (∀ j,j<m->Holds s l (B j))/\l.stn=cnt (fun j=>¬ zcR (B j)) m/\l.ron=cnt (fun j=>¬ zca (B j)) m/\l.sen=m
theorem one_of {F:Nat->Int}{n:Nat}(h:∀ i,i<n->¬ Has F i (F i)){j x:Nat}(a:j<n)(b:x<n)(e:F j=F x):j=x:=by
 by_cases c:j<x
 ·exact absurd ⟨j,c,e⟩ (h x b)
 ·by_cases c2:x<j
  ·exact absurd ⟨x,c2,e.symm⟩ (h j a)
  ·omega
theorem zeJ {F:Nat->Int}{n:Nat}(h:∀ i,i<n->¬ Has F i (F i)){j:Nat}{q:Int}(b:j<n)(e:F j=q):zaj F q n=j:=by
 have a:zaj F q n<n:=(zdo F n q).1 ⟨j,b,e⟩;exact(one_of h b a (e.trans (zdn F q n a).symm)).symm
theorem zkG {b:ql}(h:qI b.p):zcR b↔b.len=0:=by
 unfold zcR
 constructor
 ·exact fun h=>h.1
 ·intro e
  rcases h.2.1 with c|c
  ·exact c
  ·have:=c.1;unfold In ql.p at this;simp at this;omega
theorem znw {b:ql}(h:qI b.p):¬ zcR b↔0<b.len:=by
 rw[zkG h]
 rcases h.2.1 with c|c
 ·have:=c.1;unfold ql.p at this;simp at this;omega
 ·have:=c.1;unfold In ql.p at this;simp at this;omega
theorem zkH {b:ql}(h:qI b.p):zca b↔b.cl=0:=by
 unfold zca
 constructor
 ·exact fun h=>h.1
 ·intro e
  rcases h.2.2 with c|c
  ·exact c
  ·have:=c.1;unfold In ql.p at this;simp at this;omega
theorem znx {b:ql}(h:qI b.p):¬ zca b↔0<b.cl:=by
 rw[zkH h]
 rcases h.2.2 with c|c
 ·have:=c.1;unfold ql.p at this;simp at this;omega
 ·have:=c.1;unfold In ql.p at this;simp at this;omega
theorem zkI {s:Zj}{l:zY}{b:ql}(m:qm s l)(d:qI b.p):Holds s l b↔zbX s l b:=by
 obtain⟨k,hr,n⟩:=m;have u1:∀ i,i<l.stn->¬ Has (Qc l.st) i (Qc l.st i):=fun i a=>(k.2.2.1 i a).2.2.2.2
 have u2:∀ i,i<l.ron->¬ Has (ZV l.ro) i (ZV l.ro i):=fun i a=>(hr.2.2.1 i a).1.2.1
 have u3:∀ i,i<l.sen->¬ Has (zag l.se) i (zag l.se i):=fun i a=>(n.2.2.1 i a).2.1
 unfold Holds zbX zfQ zeI zfR;rw[zkG d,zkH d]
 constructor
 ·rintro⟨h1,h2,h3⟩
  refine⟨⟨_,h3.1,zdn (zag l.se) _ _ h3.1,h3.2⟩,?_,?_⟩
  ·rcases h1 with h|h
   ·exact .inl h
   ·exact .inr ⟨_,h.1,zdn (Qc l.st) _ _ h.1,h.2.1,h.2.2⟩
  ·rcases h2 with h|h
   ·exact .inl h
   ·exact .inr ⟨_,h.1,zdn (ZV l.ro) _ _ h.1,h.2.1,h.2.2.2,h.2.2.1⟩
 ·rintro⟨⟨j,c,f,g⟩,h2,h3⟩
  refine⟨?_,?_,?_⟩
  ·rcases h2 with h|⟨i,a,c1,c2,c3⟩
   ·exact .inl h
   ·have e:zaj (Qc l.st) b.who l.stn=i:=zeJ u1 a c1
    rw[e];exact .inr ⟨a,c2,c3⟩
  ·rcases h3 with h|⟨i,a,c1,c2,c3,c4⟩
   ·exact .inl h
   ·have e:zaj (ZV l.ro) b.who l.ron=i:=zeJ u2 a c1
    rw[e];exact .inr ⟨a,c2,c4,c3⟩
  ·have e:zaj (zag l.se) b.who l.sen=j:=zeJ u3 c f
   rw[e];exact⟨c,g⟩
theorem just_iff {o:Off}{k:Nat}(c:qm (o.sa k) (o.ld k))(d:∀ i,i<o.bkn->qI (o.bk i).p) :
  zgV (o.sa k) (o.ld k) (onL (On o k) o.bkn).length (fun j=>o.bk (onI (On o k) o.bkn j))↔zaQ o k:=by
 have b:∀ j,j<(onL (On o k) o.bkn).length->qI (o.bk (onI (On o k) o.bkn j)).p:=fun j a=>d _ (zmJ (On o k) o.bkn j a).1
 have c1:cnt (fun j=>¬ zcR (o.bk (onI (On o k) o.bkn j))) (onL (On o k) o.bkn).length=cnt (fun i=>On o k i/\0<(o.bk i).len) o.bkn:=by
  rw[← cnt_on (On o k) (fun i=>0<(o.bk i).len) o.bkn]
  exact zeH (fun j a=>znw (b j a))
 have c2:cnt (fun j=>¬ zca (o.bk (onI (On o k) o.bkn j))) (onL (On o k) o.bkn).length=cnt (fun i=>On o k i/\0<(o.bk i).cl) o.bkn:=by
  rw[← cnt_on (On o k) (fun i=>0<(o.bk i).cl) o.bkn]
  exact zeH (fun j a=>znx (b j a))
 unfold zgV zaQ;rw[c1,c2,ziU]
 constructor
 ·rintro⟨h,r⟩
  refine⟨fun i e f=>?_,r⟩
  obtain⟨j,a,rfl⟩:=onI_all (On o k) o.bkn i e f;exact(zkI c (b j a)).1 (h j (by rw[← ziU];exact a))
 ·rintro⟨h,r⟩
  refine⟨fun j a=>?_,r⟩
  rw[← ziU] at a;have:=zmJ (On o k) o.bkn j a;exact(zkI c (b j a)).2 (h _ this.1 this.2)
end
theorem zkJ (g:Option Addr)(n c:Nat)(G:Nat->Int)(x:Int)(w:World)(hn:n<=1048576)(p:zT w g n G) :
  Calls Tryz.prog 246 #[.slice g n c,int i64 x] w fun e w'=>e=.returned (int i64 (Zv G x n))/\w'=w:=by
 go_enter Tryz.func246,Tryz.ntmps246;go_wp2;go_loopw [5,8] (fun _ i wr=>∃ k:Nat,k<=n/\i=int i64 k/\(∀ j,j<k->G j≠x)/\wr=w) (fun _ i _=>n - (intOf i).toNat)
 case atStart=>exact⟨0,Nat.zero_le _,rfl,fun j o=>by omega,rfl⟩
 case round =>
  obtain⟨k,hk,rfl,a,rfl⟩:=hrel;have d:=hI a;clear a
  by_cases hlt2:k<n
  ·obtain⟨b,off,rfl,h0⟩:=p k hlt2
   by_cases he:G k=x
   ·have m:(x == G k)=true:=by rw[he];simp
    have f:Hid (Zv G x n=k):=by
     have:zaj G x n=k:=zfe hlt2 he d.out;unfold Zv Hid;rw[this,if_pos hlt2]
    clear he;go_wp2;go_ret;exact⟨by rw[f.out];rfl,rfl⟩
   ·have m:(x == G k)=false:=by simpa using fun h=>he h.symm
    have l:=hI he;clear he;go_wp2;go_roundw
    case rel=>exact⟨k+1,by omega,by go_num,fun j o=>by
     by_cases e:j=k
     ·subst e;exact l.out
     ·exact d.out j (by omega),trivial⟩
    case measure=>simp[intOf];omega
  ·obtain rfl:k=n:=by omega
   have f:=hI (zbM (zdp d.out));go_wp2;go_ret;exact⟨by rw[f.out];rfl,rfl⟩
theorem zny (d:Option Addr)(n c:Nat)(G:Nat->Int)(x:Int)(w:World)(i:n<=1048576)(j:zT w d n G) :
  Calls Tryz.prog 190 #[.slice d n c,int i64 x] w fun e w'=>qX (Has G n x) e/\w'=w:=by
 obtain⟨r,hr⟩:∃ r,r=Zv G x n:=⟨_,rfl⟩;have b:=hI hr;clear hr;go_enter Tryz.func190,Tryz.ntmps190;go_wp2_with fail;refine(zkJ d n c G x _ i j).mono ?_;rw[← b.out];rintro e w1 ⟨rfl,f⟩;have f:=f.symm;subst f
 by_cases h:Has G n x
 ·have g:decide (0<=r)=true:=by rw[b.out];unfold Zv;rw[if_pos ((zdo _ _ _).1 h)];simp
  have a:=hI h;clear h;go_wp2;go_ret;exact⟨zR a.out,rfl⟩
 ·have g:decide (0<=r)=false:=by rw[b.out,zbM h];rfl
  have a:=hI h;clear h;go_wp2;go_ret;exact⟨zl a.out,rfl⟩
theorem zhZ (b:ql)(c:Option Addr)(d:Nat)(w:World) :
  Calls Tryz.prog 189 #[.agg #[int i64 b.name,int i64 b.who,.string b.own,.slice c b.lgn d,int i64 b.pe,int i64 b.len,int i64 b.hei,int i64 b.cl,.bool b.all,int i64 b.be,int i64 b.state,int i64 b.unt,int i64 b.price]] w fun e w'=>qX (zez b) e/\Below w.heap.size w w':=by
 by_cases s1:b.state=1
 ·have f:(b.state == 1)=true:=by simpa using s1
  have a:Hid (zez b):=.inl s1;clear s1;go_enter Tryz.func189,Tryz.ntmps189;go_wp2;go_ret;exact⟨zR a.out,zk bZ _⟩
 ·have f:(b.state == 1)=false:=by simpa using s1
  by_cases s2:b.state=2
  ·have g:(b.state == 2)=true:=by simpa using s2
   have a:Hid (zez b):=.inr s2;clear s1 s2;go_enter Tryz.func189,Tryz.ntmps189;go_wp2;go_ret;exact⟨zR a.out,zk bZ _⟩
  ·have g:(b.state == 2)=false:=by simpa using s2
   have a:Hid (¬ zez b):=by intro h;rcases h with h|h;exact s1 h;exact s2 h
   clear s1 s2;go_enter Tryz.func189,Tryz.ntmps189;go_wp2;go_ret;exact⟨zl a.out,zk bZ _⟩
theorem ZD (a:Value)(w:World) :
  Calls Tryz.prog 193 #[.bool true,a] w fun e w'=>e=.returned (.tuple #[])/\w'=w:=by
 go_enter Tryz.func193,Tryz.ntmps193;go_wp2;go_end0;exact⟨rfl,rfl⟩
theorem zaD (T:Nat)(u:Value)(w:World) :
  Calls Tryz.prog 193 #[.bool false,.iface T u] w fun e w'=>e=.panicked [{ v:=.iface 96 (.agg #[.iface T u]),recovered:=false }]/\w'=w:=by
 go_enter Tryz.func193,Tryz.ntmps193;go_wp2;exact⟨rfl,rfl,rfl⟩
/-- What is deferred, where the steps came to their end. -/
theorem znz (p:Addr)(w:World) :
  CallsD Tryz.prog 105 #[.pointer (some p)] .returning w fun e c w'=>e=.returned (.tuple #[])/\c=.returning/\w'=w:=by
 have a:∀ w:World,(Instr.typeAssert .nilIface 20 92 true).run Tryz.prog w=.ok (.tuple #[.nilIface,.bool false]) w:=fun w=>by kernel_rfl
 refine callsD_of_wpS Tryz.func105 rfl fun c₀ cs b=>?_
 apply wpS_seq
 apply wpS_region
 simp[wpOpsS,go_sem,recoverD,b,Tryz.ntmps105,Exit.thenS,a]
 apply wpS_seq
 apply wpS_region
 simp[wpOpsS,go_sem,Exit.thenS];refine wpS_cond (t:=false) (by simp[Act.eval,Array.replicate]) ?_
 simp only[Bool.false_eq_true,if_false];refine wpS_of_wp (wp_skip ?_)
 cases c₀
 simp_all [bodyPostS,results,Tryz.results105]
/-- What is deferred, where the steps were refused. -/
theorem ziV (p:Addr)(x:Value)(u:Value)(a:List PanicEntry)(w:World)(c:w.cell? p=some x)(f:w.frozen? p=false) :
  CallsD Tryz.prog 105 #[.pointer (some p)] (.panicking ({ v:=.iface 96 u,recovered:=false } :: a)) w fun e g w' =>
   e=.returned (.tuple #[])/\g=.panicking ({ v:=.iface 96 u,recovered:=true } :: a)/\w'=w.setCell p (.iface 96 u):=by
 have b:∀ w:World,(Instr.typeAssert (.iface 96 u) 20 92 true).run Tryz.prog w=.ok (.tuple #[.iface 96 u,.bool true]) w:=fun w=>by kernel_rfl
 refine callsD_of_wpS Tryz.func105 rfl fun c₀ cs d=>?_
 apply wpS_seq
 apply wpS_region
 simp[wpOpsS,go_sem,recoverD,d,Tryz.ntmps105,Exit.thenS,b]
 apply wpS_seq
 apply wpS_region
 simp[wpOpsS,go_sem,Exit.thenS];refine wpS_cond (t:=true) (by simp[Act.eval,Array.replicate]) ?_
 simp only[if_true]
 apply wpS_region
 simp[wpOpsS,go_sem,c,f,bodyPostS,results,Tryz.results105]
section
open Go.RowKit Go.Extern.Stop Go.Stop Go.Extern
theorem Tryz.isMethodComparable (v : Value) (w : World) : (Go.method 525 284 v "Comparable").run Tryz.prog w = .ok (327, v) w := by kernel_rfl
theorem Tryz.isComp:(Tryz.prog.info? 391).map (·.comparable)=some true:=by kernel_rfl
theorem Tryz.isSize:(Tryz.prog.info? 413).map (·.size)=some 1:=by kernel_rfl
theorem Tryz.noIsE (v:Value)(a:TypeId)(w:World):(Instr.typeAssert (.iface 391 v) a 335 true).run Tryz.prog w=.ok (.tuple #[.nilIface,.bool false]) w:=run_typeAssert_lacksB Tryz.underlying335 (by kernel_rfl) (by kernel_rfl) v a w
theorem Tryz.noUnwrapE (v:Value)(a:TypeId)(w:World):(Instr.typeAssert (.iface 391 v) a 292 true).run Tryz.prog w=.ok (.tuple #[.nilIface,.bool false]) w:=run_typeAssert_lacksB Tryz.underlying292 (by kernel_rfl) (by kernel_rfl) v a w
theorem Tryz.noUnwrapsE (v:Value)(a:TypeId)(w:World):(Instr.typeAssert (.iface 391 v) a 294 true).run Tryz.prog w=.ok (.tuple #[.nilIface,.bool false]) w:=run_typeAssert_lacksB Tryz.underlying294 (by kernel_rfl) (by kernel_rfl) v a w
theorem Tryz.noIsR (v:Value)(a:TypeId)(w:World):(Instr.typeAssert (.iface 96 v) a 335 true).run Tryz.prog w=.ok (.tuple #[.nilIface,.bool false]) w:=run_typeAssert_lacksB Tryz.underlying335 (by kernel_rfl) (by kernel_rfl) v a w
theorem Tryz.hasUnwrapR (v:Value)(a:TypeId)(w:World):(Instr.typeAssert (.iface 96 v) a 292 true).run Tryz.prog w=.ok (.tuple #[.iface 96 v,.bool true]) w:=run_typeAssert_hasB Tryz.underlying292 (by kernel_rfl) v a w
theorem Tryz.methodUnwrap (v : Value) (w : World) : (Go.method 525 96 v "Unwrap").run Tryz.prog w = .ok (318, v) w := by kernel_rfl
theorem Z9 {a:TypeId}{e:Array (String × TypeId)}(b:TypeId)(v:Value)(c:Tryz.prog.underlying a=some (.interface e))(w:World) :
  (binOp .eql a (.iface b v) .nilIface).run Tryz.prog w=.ok (.bool false) w:=by
 have h:∀ d:Nat,(Op.equalIn (d+1) a (.iface b v) .nilIface).run Tryz.prog w=.ok false w:=fun d=>by simp[Op.equalIn,run_underlying c]
 simp only[binOp];simp[Op.equal,Op.maxDepth,h 9999]
theorem zgW {a:TypeId}{c:Array (String × TypeId)}(b:Tryz.prog.underlying a=some (.interface c))(w:World) :
  (binOp .eql a .nilIface .nilIface).run Tryz.prog w=.ok (.bool true) w:=by
 have h:∀ d:Nat,(Op.equalIn (d+1) a .nilIface .nilIface).run Tryz.prog w=.ok true w:=fun d=>by simp[Op.equalIn,run_underlying b]
 simp only[binOp];simp[Op.equal,Op.maxDepth,h 9999]
theorem zia (a:Value)(w:World) :
  Calls Tryz.prog 318 #[.agg #[a]] w fun e w'=>e=.returned a/\w'=w.alloc (.cells #[a] 96):=by
 go_enter Tryz.func318,Tryz.ntmps318;go_wp2;go_ret;exact⟨rfl,rfl⟩
/-- A refusal for one of errors.New's make, held against it. -/
theorem is1_same (b:Addr)(w:World) :
  Calls Tryz.prog 216 #[.iface 96 (.agg #[.iface 391 (.pointer (some b))]),.iface 391 (.pointer (some b)),.bool true] w fun e w'=>e=.returned (.bool true)/\w'=w.alloc (.cells #[.iface 391 (.pointer (some b))] 96):=by
 obtain⟨i,d,a⟩:=Option.map_eq_some_iff.1 Tryz.isComp;obtain⟨j,f,g⟩:=Option.map_eq_some_iff.1 Tryz.isSize;have nE:=Tryz.noIsE;have uE:=Tryz.noUnwrapE;have vE:=Tryz.noUnwrapsE;have nR:=Tryz.noIsR;have uR:=Tryz.hasUnwrapR;have mU:=Tryz.methodUnwrap;have c:=fun w=>run_eql_iface_ptr_same (P:=Tryz.prog) w b Tryz.underlying92 Tryz.underlying391 d a f
 have k:=fun w=>run_eql_iface_types (P:=Tryz.prog) 96 391 (.agg #[.iface 391 (.pointer (some b))]) (.pointer (some b)) Tryz.underlying92 (by decide) w
 have h:=fun w v=>Z9 391 v Tryz.underlying92 w
 go_enter Tryz.func216,Tryz.ntmps216;go_wp2;refine wp_loop_rounds 2 ?_;rw[rounds_succ];go_wp2_with (first|(go_at_call 318;refine(zia _ _).mono ?_;rintro e w2 ⟨rfl,rfl⟩))
 rw[rounds_succ];go_wp2;go_ret;exact⟨rfl,rfl⟩
/-- A refusal for one of errors.New's make, held against another one. -/
theorem is1_other (a b:Addr)(ca g:Array Value)(q r:TypeId)(w:World)(f:a≠b)(h:w.heap[a.block]?=some (.cells ca q (0,0)))(k:w.heap[b.block]?=some (.cells g r (0,0))) :
  Calls Tryz.prog 216 #[.iface 96 (.agg #[.iface 391 (.pointer (some a))]),.iface 391 (.pointer (some b)),.bool true] w fun e w'=>e=.returned (.bool false)/\w'=w.alloc (.cells #[.iface 391 (.pointer (some a))] 96):=by
 obtain⟨i,m,c⟩:=Option.map_eq_some_iff.1 Tryz.isComp;obtain⟨j,n,d⟩:=Option.map_eq_some_iff.1 Tryz.isSize;have nE:=Tryz.noIsE;have uE:=Tryz.noUnwrapE;have vE:=Tryz.noUnwrapsE;have nR:=Tryz.noIsR;have uR:=Tryz.hasUnwrapR;have mU:=Tryz.methodUnwrap;have l:=run_eql_iface_ptr_other (P:=Tryz.prog) (w.alloc (.cells #[.iface 391 (.pointer (some a))] 96)) Tryz.underlying92 Tryz.underlying391 m c n (by rw[d];decide) f (zd h _) (zd k _)
 have p:=fun w=>run_eql_iface_types (P:=Tryz.prog) 96 391 (.agg #[.iface 391 (.pointer (some a))]) (.pointer (some b)) Tryz.underlying92 (by decide) w
 have o:=fun w v=>Z9 391 v Tryz.underlying92 w
 go_enter Tryz.func216,Tryz.ntmps216;go_wp2;refine wp_loop_rounds 2 ?_;rw[rounds_succ];go_wp2_with (first|(go_at_call 318;refine(zia _ _).mono ?_;rintro e w2 ⟨rfl,rfl⟩))
 rw[rounds_succ];go_wp2;go_ret;exact⟨rfl,rfl⟩
end
section
open Go.RowKit Go.Extern.Stop Go.Stop Go.Extern
theorem Tryz.callTypeOf (v:Value)(w:World):(callFunc 213 #[.iface 391 v]).run Tryz.prog w=.ok (.value (.iface 284 (.agg #[.pointer (some ⟨12,391,none⟩)]))) w:=by kernel_rfl
theorem Tryz.callComparable (w:World):(callFunc 327 #[.agg #[.pointer (some ⟨12,391,none⟩)]]).run Tryz.prog w=.ok (.value (.bool true)) w:=by kernel_rfl
theorem zdw (b:Addr)(w:World) :
  Calls Tryz.prog 122 #[.iface 96 (.agg #[.iface 391 (.pointer (some b))]),.iface 391 (.pointer (some b))] w fun e w'=>e=.returned (.bool true)/\Below w.heap.size w w':=by
 have hT:=Tryz.callTypeOf;have hC:=Tryz.callComparable;have mR:=Tryz.isMethodComparable;have n1:=fun w v=>Z9 96 v Tryz.underlying92 w
 have n2:=fun w v=>Z9 391 v Tryz.underlying92 w
 go_enter Tryz.func122,Tryz.ntmps122;go_wp2_with (first|(go_at_call 216;refine(is1_same b _).mono ?_;rintro e w2 ⟨rfl,rfl⟩))
 go_ret;exact⟨rfl,zk bZ _⟩
theorem zcS (a b:Addr)(ca d:Array Value)(f g:TypeId)(w:World)(c:a≠b)(h:w.heap[a.block]?=some (.cells ca f (0,0)))(i:w.heap[b.block]?=some (.cells d g (0,0))) :
  Calls Tryz.prog 122 #[.iface 96 (.agg #[.iface 391 (.pointer (some a))]),.iface 391 (.pointer (some b))] w fun e w'=>e=.returned (.bool false)/\Below w.heap.size w w':=by
 have hT:=Tryz.callTypeOf;have hC:=Tryz.callComparable;have mR:=Tryz.isMethodComparable;have n1:=fun w v=>Z9 96 v Tryz.underlying92 w
 have n2:=fun w v=>Z9 391 v Tryz.underlying92 w
 go_enter Tryz.func122,Tryz.ntmps122;go_wp2_with (first|(go_at_call 216;refine(is1_other a b ca d f g _ c h i).mono ?_;rintro e w2 ⟨rfl,rfl⟩))
 go_ret;exact⟨rfl,zk bZ _⟩
theorem znA (v:Value)(w:World):Calls Tryz.prog 122 #[.iface 96 v,.nilIface] w fun e w'=>e=.returned (.bool false)/\w'=w:=by
 have n0:=fun w=>zgW Tryz.underlying92 w
 have n1:=fun w v=>Z9 96 v Tryz.underlying92 w
 go_enter Tryz.func122,Tryz.ntmps122;go_wp2;go_ret;exact⟨rfl,rfl⟩
structure qY (w:World)(pe:Nat->Addr):Prop where
 c1:w.cell? ⟨1,0,none⟩=some (.iface 391 (.pointer (some (pe 1))))
 c2:w.cell? ⟨2,0,none⟩=some (.iface 391 (.pointer (some (pe 2))))
 c3:w.cell? ⟨3,0,none⟩=some (.iface 391 (.pointer (some (pe 3))))
 c4:w.cell? ⟨4,0,none⟩=some (.iface 391 (.pointer (some (pe 4))))
 c5:w.cell? ⟨5,0,none⟩=some (.iface 391 (.pointer (some (pe 5))))
 c6:w.cell? ⟨6,0,none⟩=some (.iface 391 (.pointer (some (pe 6))))
 c7:w.cell? ⟨7,0,none⟩=some (.iface 391 (.pointer (some (pe 7))))
 c8:w.cell? ⟨8,0,none⟩=some (.iface 391 (.pointer (some (pe 8))))
 obj:∀ k,1<=k->k<=8->∃ cs t,w.heap[(pe k).block]?=some (.cells cs t (0,0))
 inj:∀ i j,1<=i->i<=8->1<=j->j<=8->i≠j->pe i≠pe j
theorem qY.below {w w':World}{pe:Nat->Addr}(h:qY w pe)(a:Below w.heap.size w w'):qY w' pe :=
 ⟨(a.cell (World.block_lt_of_cell? w _ h.c1)).trans h.c1,(a.cell (World.block_lt_of_cell? w _ h.c2)).trans h.c2,(a.cell (World.block_lt_of_cell? w _ h.c3)).trans h.c3,(a.cell (World.block_lt_of_cell? w _ h.c4)).trans h.c4,(a.cell (World.block_lt_of_cell? w _ h.c5)).trans h.c5,(a.cell (World.block_lt_of_cell? w _ h.c6)).trans h.c6,(a.cell (World.block_lt_of_cell? w _ h.c7)).trans h.c7,(a.cell (World.block_lt_of_cell? w _ h.c8)).trans h.c8,fun k h1 h2=>by obtain⟨cs,t,e⟩:=h.obj k h1 h2;exact⟨cs,t,zb e a⟩,h.inj⟩
theorem kinds_at (a b c d e f g h:Value)(w:World):(Instr.index 196 (.agg #[.nilIface,a,b,c,d,e,f,g,h]) (int i64 0)).run Tryz.prog w=.ok .nilIface w/\(Instr.index 196 (.agg #[.nilIface,a,b,c,d,e,f,g,h]) (int i64 1)).run Tryz.prog w=.ok a w/\(Instr.index 196 (.agg #[.nilIface,a,b,c,d,e,f,g,h]) (int i64 2)).run Tryz.prog w=.ok b w/\(Instr.index 196 (.agg #[.nilIface,a,b,c,d,e,f,g,h]) (int i64 3)).run Tryz.prog w=.ok c w/\(Instr.index 196 (.agg #[.nilIface,a,b,c,d,e,f,g,h]) (int i64 4)).run Tryz.prog w=.ok d w/\(Instr.index 196 (.agg #[.nilIface,a,b,c,d,e,f,g,h]) (int i64 5)).run Tryz.prog w=.ok e w/\(Instr.index 196 (.agg #[.nilIface,a,b,c,d,e,f,g,h]) (int i64 6)).run Tryz.prog w=.ok f w/\(Instr.index 196 (.agg #[.nilIface,a,b,c,d,e,f,g,h]) (int i64 7)).run Tryz.prog w=.ok g w/\(Instr.index 196 (.agg #[.nilIface,a,b,c,d,e,f,g,h]) (int i64 8)).run Tryz.prog w=.ok h w:=⟨by kernel_rfl,by kernel_rfl,by kernel_rfl,by kernel_rfl,by kernel_rfl,by kernel_rfl,by kernel_rfl,by kernel_rfl,by kernel_rfl⟩
/-- The fault is a refusal for error k. -/
theorem znB (pe:Nat->Addr)(k:Nat)(w:World)(t:qY w pe)(h1:1<=k)(h8:k<=8) :
  Calls Tryz.prog 56 #[.iface 96 (.agg #[.iface 391 (.pointer (some (pe k)))])] w fun e w'=>e=.returned (int i64 k)/\Below w.heap.size w w':=by
 have v:=hI t;have A:=t.c1;have B:=t.c2;have C:=t.c3;have D:=t.c4;have E:=t.c5;have F:=t.c6;have G:=t.c7;have H:=t.c8;obtain⟨u,f⟩:∃ u,u=pe k:=⟨_,rfl⟩;have d:=hI f;rw[← f];clear t f;have y:Below w.heap.size w (w.alloc (.cells #[.nilIface,.iface 391 (.pointer (some (pe 1))),.iface 391 (.pointer (some (pe 2))),.iface 391 (.pointer (some (pe 3))),.iface 391 (.pointer (some (pe 4))),.iface 391 (.pointer (some (pe 5))),.iface 391 (.pointer (some (pe 6))),.iface 391 (.pointer (some (pe 7))),.iface 391 (.pointer (some (pe 8)))] 196)):=zk bZ _;go_enter Tryz.func56,Tryz.ntmps56;go_wp2;generalize w.alloc (.cells #[.nilIface,.iface 391 (.pointer (some (pe 1))),.iface 391 (.pointer (some (pe 2))),.iface 391 (.pointer (some (pe 3))),.iface 391 (.pointer (some (pe 4))),.iface 391 (.pointer (some (pe 5))),.iface 391 (.pointer (some (pe 6))),.iface 391 (.pointer (some (pe 7))),.iface 391 (.pointer (some (pe 8)))] 196)=W at y ⊢;go_loopg [16] 9 (fun g i wr=>∃ j:Nat,j<=k/\g=9 - j/\i=int i64 j/\Below w.heap.size w wr)
 case atStart=>exact⟨0,Nat.zero_le _,rfl,rfl,y⟩
 case round =>
  obtain⟨j,hj,rfl,rfl,c⟩:=hrel;have l:=hI (v.out.below c);have z:j=0∨j=1∨j=2∨j=3∨j=4∨j=5∨j=6∨j=7∨j=8:=by omega
  clear A B C D E F G H;have h:=fun w=>kinds_at (.iface 391 (.pointer (some (pe 1)))) (.iface 391 (.pointer (some (pe 2)))) (.iface 391 (.pointer (some (pe 3)))) (.iface 391 (.pointer (some (pe 4)))) (.iface 391 (.pointer (some (pe 5)))) (.iface 391 (.pointer (some (pe 6)))) (.iface 391 (.pointer (some (pe 7)))) (.iface 391 (.pointer (some (pe 8)))) w
  rcases z with rfl|rfl|rfl|rfl|rfl|rfl|rfl|rfl|rfl
  ·have x:=fun w=>(h w).1
   clear h;go_wp2_with (first|(go_at_call 122;refine(znA _ _).mono ?_;rintro e o ⟨rfl,rfl⟩))
   go_roundg 8
   case measure=>omega
   case rel=>exact⟨1,by omega,rfl,by go_num,c⟩
  ·have x:=fun w=>(h w).2.1
   clear h
   by_cases hk:k=1
   ·subst hk
    have f:=d.out;subst f;go_wp2_with (first|(go_at_call 122;refine(zdw _ _).mono ?_;rintro e o ⟨rfl,b⟩))
    go_ret;exact⟨rfl,ze c b⟩
   ·have m:u≠pe 1:=by rw[d.out];exact v.out.inj k 1 h1 h8 (by omega) (by omega) hk
    obtain⟨ca,r,n⟩:=l.out.obj k h1 h8;obtain⟨p,s,q⟩:=l.out.obj 1 (by omega) (by omega)
    rw[← d.out] at n;go_wp2_with (first|(go_at_call 122;refine(zcS _ _ ca p r s _ m n q).mono ?_;rintro e o ⟨rfl,b⟩))
    go_roundg 7
    case measure=>omega
    case rel=>exact⟨2,by omega,rfl,by go_num,ze c b⟩
  ·have x:=fun w=>(h w).2.2.1
   clear h
   by_cases hk:k=2
   ·subst hk
    have f:=d.out;subst f;go_wp2_with (first|(go_at_call 122;refine(zdw _ _).mono ?_;rintro e o ⟨rfl,b⟩))
    go_ret;exact⟨rfl,ze c b⟩
   ·have m:u≠pe 2:=by rw[d.out];exact v.out.inj k 2 h1 h8 (by omega) (by omega) hk
    obtain⟨ca,r,n⟩:=l.out.obj k h1 h8;obtain⟨p,s,q⟩:=l.out.obj 2 (by omega) (by omega)
    rw[← d.out] at n;go_wp2_with (first|(go_at_call 122;refine(zcS _ _ ca p r s _ m n q).mono ?_;rintro e o ⟨rfl,b⟩))
    go_roundg 6
    case measure=>omega
    case rel=>exact⟨3,by omega,rfl,by go_num,ze c b⟩
  ·have x:=fun w=>(h w).2.2.2.1
   clear h
   by_cases hk:k=3
   ·subst hk
    have f:=d.out;subst f;go_wp2_with (first|(go_at_call 122;refine(zdw _ _).mono ?_;rintro e o ⟨rfl,b⟩))
    go_ret;exact⟨rfl,ze c b⟩
   ·have m:u≠pe 3:=by rw[d.out];exact v.out.inj k 3 h1 h8 (by omega) (by omega) hk
    obtain⟨ca,r,n⟩:=l.out.obj k h1 h8;obtain⟨p,s,q⟩:=l.out.obj 3 (by omega) (by omega)
    rw[← d.out] at n;go_wp2_with (first|(go_at_call 122;refine(zcS _ _ ca p r s _ m n q).mono ?_;rintro e o ⟨rfl,b⟩))
    go_roundg 5
    case measure=>omega
    case rel=>exact⟨4,by omega,rfl,by go_num,ze c b⟩
  ·have x:=fun w=>(h w).2.2.2.2.1
   clear h
   by_cases hk:k=4
   ·subst hk
    have f:=d.out;subst f;go_wp2_with (first|(go_at_call 122;refine(zdw _ _).mono ?_;rintro e o ⟨rfl,b⟩))
    go_ret;exact⟨rfl,ze c b⟩
   ·have m:u≠pe 4:=by rw[d.out];exact v.out.inj k 4 h1 h8 (by omega) (by omega) hk
    obtain⟨ca,r,n⟩:=l.out.obj k h1 h8;obtain⟨p,s,q⟩:=l.out.obj 4 (by omega) (by omega)
    rw[← d.out] at n;go_wp2_with (first|(go_at_call 122;refine(zcS _ _ ca p r s _ m n q).mono ?_;rintro e o ⟨rfl,b⟩))
    go_roundg 4
    case measure=>omega
    case rel=>exact⟨5,by omega,rfl,by go_num,ze c b⟩
  ·have x:=fun w=>(h w).2.2.2.2.2.1
   clear h
   by_cases hk:k=5
   ·subst hk
    have f:=d.out;subst f;go_wp2_with (first|(go_at_call 122;refine(zdw _ _).mono ?_;rintro e o ⟨rfl,b⟩))
    go_ret;exact⟨rfl,ze c b⟩
   ·have m:u≠pe 5:=by rw[d.out];exact v.out.inj k 5 h1 h8 (by omega) (by omega) hk
    obtain⟨ca,r,n⟩:=l.out.obj k h1 h8;obtain⟨p,s,q⟩:=l.out.obj 5 (by omega) (by omega)
    rw[← d.out] at n;go_wp2_with (first|(go_at_call 122;refine(zcS _ _ ca p r s _ m n q).mono ?_;rintro e o ⟨rfl,b⟩))
    go_roundg 3
    case measure=>omega
    case rel=>exact⟨6,by omega,rfl,by go_num,ze c b⟩
  ·have x:=fun w=>(h w).2.2.2.2.2.2.1
   clear h
   by_cases hk:k=6
   ·subst hk
    have f:=d.out;subst f;go_wp2_with (first|(go_at_call 122;refine(zdw _ _).mono ?_;rintro e o ⟨rfl,b⟩))
    go_ret;exact⟨rfl,ze c b⟩
   ·have m:u≠pe 6:=by rw[d.out];exact v.out.inj k 6 h1 h8 (by omega) (by omega) hk
    obtain⟨ca,r,n⟩:=l.out.obj k h1 h8;obtain⟨p,s,q⟩:=l.out.obj 6 (by omega) (by omega)
    rw[← d.out] at n;go_wp2_with (first|(go_at_call 122;refine(zcS _ _ ca p r s _ m n q).mono ?_;rintro e o ⟨rfl,b⟩))
    go_roundg 2
    case measure=>omega
    case rel=>exact⟨7,by omega,rfl,by go_num,ze c b⟩
  ·have x:=fun w=>(h w).2.2.2.2.2.2.2.1
   clear h
   by_cases hk:k=7
   ·subst hk
    have f:=d.out;subst f;go_wp2_with (first|(go_at_call 122;refine(zdw _ _).mono ?_;rintro e o ⟨rfl,b⟩))
    go_ret;exact⟨rfl,ze c b⟩
   ·have m:u≠pe 7:=by rw[d.out];exact v.out.inj k 7 h1 h8 (by omega) (by omega) hk
    obtain⟨ca,r,n⟩:=l.out.obj k h1 h8;obtain⟨p,s,q⟩:=l.out.obj 7 (by omega) (by omega)
    rw[← d.out] at n;go_wp2_with (first|(go_at_call 122;refine(zcS _ _ ca p r s _ m n q).mono ?_;rintro e o ⟨rfl,b⟩))
    go_roundg 1
    case measure=>omega
    case rel=>exact⟨8,by omega,rfl,by go_num,ze c b⟩
  ·have x:=fun w=>(h w).2.2.2.2.2.2.2.2
   clear h
   by_cases hk:k=8
   ·subst hk
    have f:=d.out;subst f;go_wp2_with (first|(go_at_call 122;refine(zdw _ _).mono ?_;rintro e o ⟨rfl,b⟩))
    go_ret;exact⟨rfl,ze c b⟩
   ·omega
end
def zeo (k:Int)(b:ql)(now:Int):Prop:=if k=4 then b.state=1 else if k=8 then b.state=1/\b.unt<now else zez b
theorem may4 {k:Int}{b:ql}{now:Int}(h:k=4):zeo k b now↔b.state=1:=by unfold zeo;rw[if_pos h]
theorem may8 {k:Int}{b:ql}{now:Int}(h:k=8):zeo k b now↔b.state=1/\b.unt<now:=by unfold zeo;rw[if_neg (by omega),if_pos h]
theorem may0 {k:Int}{b:ql}{now:Int}(a:k≠4)(h8:k≠8):zeo k b now↔zez b:=by unfold zeo;rw[if_neg a,if_neg h8]
theorem zkK (x:OpD)(i:Option Addr)(j:Nat)(b:ql)(d:Option Addr)(f:Nat)(w:World) :
  Calls Tryz.prog 196 #[.agg #[int i64 x.kind,.string x.own,int i64 x.name,.slice i x.lgn j,int i64 x.pe,int i64 x.len,int i64 x.hei,int i64 x.cl,.bool x.all,int i64 x.be,int i64 x.unt,int i64 x.now],.agg #[int i64 b.name,int i64 b.who,.string b.own,.slice d b.lgn f,int i64 b.pe,int i64 b.len,int i64 b.hei,int i64 b.cl,.bool b.all,int i64 b.be,int i64 b.state,int i64 b.unt,int i64 b.price]] w fun e w'=>qX (zeo x.kind b x.now) e/\Below w.heap.size w w':=by
 by_cases k4:x.kind=4
 ·have k:(x.kind == 4)=true:=by simpa using k4
  have a:=hI (may4 k4);clear k4
  by_cases s1:b.state=1
  ·have g:(b.state == 1)=true:=by simpa using s1
   have c:=hI (a.out.2 s1);clear s1 a;go_enter Tryz.func196,Tryz.ntmps196;go_wp2;go_ret;exact⟨zR c.out,zk (zk bZ _) _⟩
  ·have g:(b.state == 1)=false:=by simpa using s1
   have c:Hid (¬ zeo x.kind b x.now):=fun h=>s1 (a.out.1 h)
   clear s1 a;go_enter Tryz.func196,Tryz.ntmps196;go_wp2;go_ret;exact⟨zl c.out,zk (zk bZ _) _⟩
 ·have k:(x.kind == 4)=false:=by simpa using k4
  by_cases k8:x.kind=8
  ·have l:(x.kind == 8)=true:=by simpa using k8
   have a:=hI (may8 k8);clear k4 k8
   by_cases s1:b.state=1
   ·have g:(b.state == 1)=true:=by simpa using s1
    by_cases u1:b.unt<x.now
    ·have m:decide (b.unt<x.now)=true:=decide_eq_true u1
     have c:Hid (zeo x.kind b x.now):=a.out.2 ⟨s1,u1⟩;clear s1 a u1;go_enter Tryz.func196,Tryz.ntmps196;go_wp2;go_ret;exact⟨zR c.out,zk (zk bZ _) _⟩
    ·have m:decide (b.unt<x.now)=false:=decide_eq_false u1
     have c:Hid (¬ zeo x.kind b x.now):=fun h=>u1 (a.out.1 h).2
     clear s1 a u1;go_enter Tryz.func196,Tryz.ntmps196;go_wp2;go_ret;exact⟨zl c.out,zk (zk bZ _) _⟩
   ·have g:(b.state == 1)=false:=by simpa using s1
    have c:Hid (¬ zeo x.kind b x.now):=fun h=>s1 (a.out.1 h).1
    clear s1 a;go_enter Tryz.func196,Tryz.ntmps196;go_wp2;go_ret;exact⟨zl c.out,zk (zk bZ _) _⟩
  ·have l:(x.kind == 8)=false:=by simpa using k8
   have a:=hI (may0 k4 k8);clear k4 k8;go_enter Tryz.func196,Tryz.ntmps196;go_wp2_with (go_at_call 189;refine(zhZ b d f _).mono ?_;rintro e w1 ⟨⟨v,rfl,n⟩,o⟩);go_ret;exact⟨⟨v,rfl,n.trans a.out.symm⟩,ze (zk (zk bZ _) _) o⟩
/-- There is room for one booking more, or none is added. -/
theorem zkL (x:OpD)(b:Option Addr)(d:Nat)(a:Option Addr)(n c:Nat)(pe:Nat->Addr)(w:World)(j:qY w pe)(h:¬ (x.kind=2∨x.kind=3)∨n<30) :
  Calls Tryz.prog 110 #[.slice a n c,.agg #[int i64 x.kind,.string x.own,int i64 x.name,.slice b x.lgn d,int i64 x.pe,int i64 x.len,int i64 x.hei,int i64 x.cl,.bool x.all,int i64 x.be,int i64 x.unt,int i64 x.now]] w fun e w'=>e=.returned (.tuple #[])/\Below w.heap.size w w':=by
 have e8:=(qY.below j (zk bZ (.cells #[int i64 x.kind,.string x.own,int i64 x.name,.slice b x.lgn d,int i64 x.pe,int i64 x.len,int i64 x.hei,int i64 x.cl,.bool x.all,int i64 x.be,int i64 x.unt,int i64 x.now] 47))).c8
 by_cases k2:x.kind=2
 ·have g:(x.kind == 2)=true:=by simpa using k2
  have k:decide ((n:Int)<30)=true:=decide_eq_true (by omega)
  clear h k2;go_enter Tryz.func110,Tryz.ntmps110;go_wp2_with (go_at_call 193;refine(ZD _ _).mono ?_;rintro e f ⟨rfl,rfl⟩);go_end0;exact⟨rfl,zk bZ _⟩
 ·have g:(x.kind == 2)=false:=by simpa using k2
  by_cases k3:x.kind=3
  ·have i:(x.kind == 3)=true:=by simpa using k3
   have k:decide ((n:Int)<30)=true:=decide_eq_true (by omega)
   clear h k2 k3;go_enter Tryz.func110,Tryz.ntmps110;go_wp2_with (go_at_call 193;refine(ZD _ _).mono ?_;rintro e f ⟨rfl,rfl⟩);go_end0;exact⟨rfl,zk bZ _⟩
  ·have i:(x.kind == 3)=false:=by simpa using k3
   clear h k2 k3;go_enter Tryz.func110,Tryz.ntmps110;go_wp2_with (go_at_call 193;refine(ZD _ _).mono ?_;rintro e f ⟨rfl,rfl⟩);go_end0;exact⟨rfl,zk bZ _⟩
/-- One is added, and there is no room. -/
theorem ziW (x:OpD)(d:Option Addr)(f:Nat)(a:Option Addr)(n c:Nat)(pe:Nat->Addr)(w:World)(i:qY w pe)(h:x.kind=2∨x.kind=3)(b:30<=n) :
  Calls Tryz.prog 110 #[.slice a n c,.agg #[int i64 x.kind,.string x.own,int i64 x.name,.slice d x.lgn f,int i64 x.pe,int i64 x.len,int i64 x.hei,int i64 x.cl,.bool x.all,int i64 x.be,int i64 x.unt,int i64 x.now]] w fun e w'=>e=.panicked [{ v:=.iface 96 (.agg #[.iface 391 (.pointer (some (pe 8)))]),recovered:=false }]/\Below w.heap.size w w':=by
 have e8:=(qY.below i (zk bZ (.cells #[int i64 x.kind,.string x.own,int i64 x.name,.slice d x.lgn f,int i64 x.pe,int i64 x.len,int i64 x.hei,int i64 x.cl,.bool x.all,int i64 x.be,int i64 x.unt,int i64 x.now] 47))).c8;have hn:decide ((n:Int)<30)=false:=decide_eq_false (by omega)
 by_cases k2:x.kind=2
 ·have g:(x.kind == 2)=true:=by simpa using k2
  clear h k2 b;go_enter Tryz.func110,Tryz.ntmps110;go_wp2_with (go_at_call 193;refine(zaD _ _ _).mono ?_;rintro e j ⟨rfl,rfl⟩);exact⟨rfl,rfl,zk bZ _⟩
 ·have g:(x.kind == 2)=false:=by simpa using k2
  have d3:(x.kind == 3)=true:=by simpa using h.resolve_left k2
  clear h k2 b;go_enter Tryz.func110,Tryz.ntmps110;go_wp2_with (go_at_call 193;refine(zaD _ _ _).mono ?_;rintro e j ⟨rfl,rfl⟩);exact⟨rfl,rfl,zk bZ _⟩
end Go.Proofs.YtmdnjgihooflfaaGreatDoor

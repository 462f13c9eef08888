/-
  OWN TEXT: MarkInts, MarkBo, MarkBh, KitOb, OwnAny, MarkLd, MarkIr.
-/
import Derived.Test.YtmdnjgihooflfaaGreatDoorKitCo
import Derived.Deep.DeepCutAuto
import Derived.Deep.RegionHeld3
import Derived.Deep.Slices
import Derived.Test.YtmdnjgihooflfaaGreatDoorB34
import Derived.Test.YtmdnjgihooflfaaGreatDoorB35
namespace Go.Proofs.YtmdnjgihooflfaaGreatDoor
open Go.RowKit
open Go.Value (int)
open Go.IntKind (i64)
set_option maxHeartbeats 64000000
set_option maxRecDepth 100000
theorem zdE (d:Option Addr)(n c base:Nat)(F:Nat->Int)(k0:Int)(w:World)(hn:n<=4194304)(h0:0<=k0)(h1:k0<=1000000000000000)(m:w.ownsRow base 3 1 (d,n,c) n (zS F n)) :
  Calls Tryz.prog 28 #[(d,n,c),k0] w fun e w'=>e=.returned (int i64 (k0+n))/\w'.ownsRow base 3 1 (d,n,c) n (zS (fun j=>k0+j) n)/\zx w w' (fun b=>∃ g,d=some (g,0)/\b=g):=by
 go_enter Tryz.func28,Tryz.ntmps28;go_wp2;go_loopw [1,5] (fun q i wr=>∃ t,t<=n/\i=int i64 t/\q=int i64 (k0+t)/\wr.ownsRow base 3 1 (d,n,c) n ((List.range n).map (fun j=>int i64 (if j<t then k0+j else F j)))/\zx w wr (fun b=>∃ g,d=some (g,0)/\b=g)) (fun _ i _=>n - (intOf i).toNat)
 case atStart=>exact⟨0,Nat.zero_le _,rfl,by simp,qR m (by intro i _;simp),zx.refl _ _⟩
 case round =>
  obtain⟨t,ht,rfl,rfl,a,f⟩:=hrel
  by_cases hlt:t<n
  ·obtain⟨g,rfl,h,k⟩:=qh a (by omega)
   have hc:=zs a t (by omega) (by omega)
   have hf:=a.frozenAt t;go_wp2;go_roundw
   case rel =>
    refine⟨t+1,by omega,by go_num,by go_num,?_,f.set ⟨g,rfl,rfl⟩ _⟩
    refine qR (zL a t _) (fun i _=>?_)
    by_cases e:i=t
    ·subst e;simp
    ·simp only[if_neg e]
     by_cases e2:i<t
     ·rw[if_pos e2,if_pos (by omega)]
     ·rw[if_neg e2,if_neg (by omega)]
   case measure=>simp[intOf];omega
  ·have:t=n:=by omega
   subst this;go_wp2;go_ret;exact⟨rfl,qR a (by intro i l;simp[l]),f⟩
theorem zlc (a:Option Addr)(n c:Nat)(k0:Int)(w:World)(hn:n<=4194304)(h0:0<=k0)(h1:k0<=1000000000000000)(d:zT w a n (fun j=>k0+j)) :
  Calls Tryz.prog 137 #[(a,n,c),k0] w fun e w'=>e=.returned (int i64 (k0+n))/\w'=w:=by
 go_enter Tryz.func137,Tryz.ntmps137;go_wp2;go_loop [1,5] (fun q i=>∃ t,t<=n/\i=int i64 t/\q=int i64 (k0+t)) (fun _ i=>n - (intOf i).toNat)
 case atStart=>exact⟨0,Nat.zero_le _,rfl,by simp⟩
 case round =>
  obtain⟨t,ht,rfl,rfl⟩:=hrel
  by_cases hlt:t<n
  ·obtain⟨b,off,rfl,hc⟩:=d t hlt
   go_wp2;go_round
   case rel=>exact⟨t+1,by omega,by go_num,by go_num⟩
   case measure=>simp[intOf];omega
  ·have:t=n:=by omega
   subst this;go_wp2;go_ret;exact⟨rfl,rfl⟩
def kB (S:Nat->ql)(k0:Nat):Nat->Nat
 | 0=>k0
 | i+1=>kB S k0 i+(12+(S i).lgn)
def mB (S:Nat->ql)(k0:Nat)(i:Nat):ql :=
 ⟨(kB S k0 i:Nat),(kB S k0 i+1:Nat),zbl (kB S k0 i+2),(S i).lgn,fun j=>((kB S k0 i+3:Nat):Int)+j,(kB S k0 i+3+(S i).lgn:Nat),(kB S k0 i+4+(S i).lgn:Nat),(kB S k0 i+5+(S i).lgn:Nat),(kB S k0 i+6+(S i).lgn:Nat),
  (((kB S k0 i+7+(S i).lgn:Nat):Int) % 3 == 0),(kB S k0 i+8+(S i).lgn:Nat),(kB S k0 i+9+(S i).lgn:Nat),(kB S k0 i+10+(S i).lgn:Nat),(kB S k0 i+11+(S i).lgn:Nat)⟩
def mixB (S:Nat->ql)(k0 t:Nat)(i:Nat):ql:=if i<t then mB S k0 i else S i
theorem zhq {S:Nat->ql}{k0 t i:Nat}(h:i<t):mixB S k0 t i=mB S k0 i:=if_pos h
theorem zhr {S:Nat->ql}{k0 t i:Nat}(h:¬ i<t):mixB S k0 t i=S i:=if_neg h
theorem zii {S:Nat->ql}{k0 t i:Nat}(h:i≠t):mixB S k0 (t+1) i=mixB S k0 t i:=by
 by_cases h1:i<t
 ·rw[zhq h1,zhq (by omega)]
 ·rw[zhr h1,zhr (by omega)]
theorem kB_le {S:Nat->ql}{k0 N:Nat}(h:∀ i,i<N->(S i).lgn<=1048576):∀ i,i<=N->kB S k0 i<=k0+i*1048600
 | 0,_=>by unfold kB;omega
 | i+1,hi=>by
  have:=kB_le (k0:=k0) h i (by omega)
  have:=h i (by omega)
  unfold kB
  omega
def BkB (v:Value)(N:Nat)(L:Nat->Value)(b:Nat):Prop:=v.ownBlock=some b∨∃ i,i<N/\(L i).ownBlock=some b
theorem markIntZ (z:Int)(v:Value)(n base k0:Nat)(F:Nat->Int)(w:World)(f:z=(k0:Int))(hn:n<=1048576)(h1:k0<=100000000000000)(a:w.ownsRow base 3 1 v n (zS F n)) :
  Calls Tryz.prog 28 #[v,z] w fun e w'=>e=.returned ((k0+n:Nat):Int)/\w'.ownsRow base 3 1 v n (zS (fun j=>(k0:Int)+j) n)/\zx w w' (fun b=>v.ownBlock=some b):=by
 subst f;obtain⟨d,c,rfl,_⟩:=zp a;refine(zdE d n c _ F k0 w (by omega) (by omega) (by omega) a).mono ?_
 rintro e w' ⟨rfl,h2,h3⟩;refine⟨by rw[show((k0+n:Nat):Int)=(k0:Int)+n by omega],h2,h3.mono (fun b e=>?_)⟩
 obtain⟨g,rfl,rfl⟩:=e
 rfl
theorem heldIntZ (z:Int)(a:Option Addr)(n c k0:Nat)(w:World)(b:z=(k0:Int))(hn:n<=1048576)(h1:k0<=100000000000000)(h:zT w a n (fun j=>(k0:Int)+j)) :
  Calls Tryz.prog 137 #[(a,n,c),z] w fun e w'=>e=.returned ((k0+n:Nat):Int)/\Below w.heap.size w w':=by
 subst b;refine(zlc a n c k0 w (by omega) (by omega) (by omega) h).mono ?_
 rintro e w' h2;rw[show((k0+n:Nat):Int)=(k0:Int)+n by omega]
 exact⟨h2.1,by rw[h2.2];exact bZ⟩
theorem zms (D:Option Addr)(N c base k0:Nat)(S:Nat->ql)(L:Nat->Value)(w:World)(hN:N<=1048576)(h1:k0<=8000000000000)(hs:∀ i,i<N->(S i).lgn<=1048576)(ho:ZC w base (D,N,c) N S L) :
  Calls Tryz.prog 64 #[(D,N,c),(k0:Int)] w fun e w'=>e=.returned ((kB S k0 N:Nat):Int)/\ZC w' base (D,N,c) N (mB S k0) L/\zx w w' (BkB (D,N,c) N L):=by
 have HS:=hI hs;have J:=hI ho;clear hs ho;go_enter Tryz.func64,Tryz.ntmps64;go_wp2;go_loopw [1,5] (fun q i wr=>∃ (t k:Nat),t<=N/\i=int i64 t/\q=int i64 k/\k=kB S k0 t/\ZC wr base (D,N,c) N (mixB S k0 t) L/\zx w wr (BkB (D,N,c) N L)) (fun _ i _=>N - (intOf i).toNat)
 case atStart =>
  refine⟨0,k0,Nat.zero_le _,rfl,rfl,rfl,?_,zx.refl _ _⟩;have e:mixB S k0 0=S:=by funext i;exact zhr (by omega)
  rw[e];exact J.out
 case round =>
  clear J;obtain⟨t,k,ht,rfl,rfl,P,o,hk⟩:=hrel;have j:=hI P;have kb:k<=10000000000000:=by have:=kB_le (k0:=k0) HS.out t ht;omega
  clear P
  by_cases hlt:t<N
  ·have R:mixB S k0 t t=S t:=zhr (by omega)
   have x:=o.legs t hlt;rw[R] at x;obtain⟨al,cl,Z,_⟩:=zp x;obtain⟨g,rfl,a8,a9⟩:=qh o.row (by omega)
   obtain⟨u0,q0⟩:∃ v,wr.cell? ⟨g,_+0,_⟩=some v:=⟨_,zU o.row hlt (by decide)⟩
   obtain⟨u1,q1⟩:∃ v,wr.cell? ⟨g,_+1,_⟩=some v:=⟨_,zU o.row hlt (by decide)⟩
   rw[Nat.add_zero] at q0;have f0:=o.row.frozenAt (t*13);have f1:=o.row.frozenAt (t*13+1);have s:=hI o;have r:=hI Z;have I:=hI (Z ▸ x);have V:=hI hk;have a2:=HS.out t hlt;clear o x Z hk R;go_wp2_with fail;refine(zau _ _ (by omega) (by omega)).mono ?_
   rintro e U ⟨rfl,z⟩;have K:Hid _:=Zr s.out.row t 0 (k:Int) rfl (by decide)
   have l:Hid _:=Zr K.out t 1 (int i64 ((k:Int)+1)) (by rw[Zb];rfl) (by decide)
   rw[Nat.add_zero] at l;have m:Hid _:=zo z l.out;have O:=(((zx.refl wr (fun b=>b=g)).set rfl _).set rfl _).trans (zx.of_below z)
   have T:((k:Int)+1+1).toNat=kB S k0 t+2:=by have:=j.out;omega
   rw[T];clear T q0 q1 f0 f1 z K l;obtain⟨u2,q2⟩:∃ v,U.cell? ⟨g,_+2,_⟩=some v:=⟨_,zU m.out hlt (by decide)⟩
   have q3:U.cell? (g,t*13+3)=some (al,(S t).lgn,cl):=by
    rw[zU m.out hlt (by decide),Zb,Zb]
    show some (L t)=_
    rw[r.out]
   have f2:=World.ownsRow.frozenAt m.out (t*13+2);go_wp2_with fail;have y:Hid _:=Zr m.out t 2 (.string (zbl (kB S k0 t+2))) (by rw[Zb,Zb];rfl) (by decide)
   have u:zx wr (U.setCell _ (.string (zbl (kB S k0 t+2)))) _:=O.set (a:=(g,t*13+2)) rfl _;clear q2 q3 f2 O m;generalize U.setCell _ _=W4 at y u ⊢;have f:∀ b,(Value.slice (some (g,0)) N c).ownBlock=some b↔_:=fun b=>by simp[Value.ownBlock];exact eq_comm
   have G:=hI (u.own I.out (fun b n e=>zI s.out.row I.out (by decide) b ((f b).2 e) n))
   refine(markIntZ _ _ _ _ (kB S k0 t+3) _ _ (by have:=j.out;omega) a2 (by have:=j.out;omega) G.out).mono ?_
   rintro e p ⟨rfl,Q,B⟩;have d:Hid _:=B.own y.out (fun b n e=>zI y.out G.out (by decide) b n e)
   have H:=hI Q;have E:=hI B;have F:=hI u;have b0:kB S k0 t+3+(S t).lgn<=20000000000000:=by have:=j.out;omega
   clear Q B u;obtain⟨u4,q4⟩:∃ v,p.cell? ⟨g,_+4,_⟩=some v:=⟨_,zU d.out hlt (by decide)⟩
   have f4:=World.ownsRow.frozenAt d.out (t*13+4);obtain⟨u5,q5⟩:∃ v,p.cell? ⟨g,_+5,_⟩=some v:=⟨_,zU d.out hlt (by decide)⟩
   have f5:=World.ownsRow.frozenAt d.out (t*13+5);obtain⟨u6,q6⟩:∃ v,p.cell? ⟨g,_+6,_⟩=some v:=⟨_,zU d.out hlt (by decide)⟩
   have f6:=World.ownsRow.frozenAt d.out (t*13+6);obtain⟨u7,q7⟩:∃ v,p.cell? ⟨g,_+7,_⟩=some v:=⟨_,zU d.out hlt (by decide)⟩
   have f7:=World.ownsRow.frozenAt d.out (t*13+7);obtain⟨u8,q8⟩:∃ v,p.cell? ⟨g,_+8,_⟩=some v:=⟨_,zU d.out hlt (by decide)⟩
   have f8:=World.ownsRow.frozenAt d.out (t*13+8);obtain⟨u9,q9⟩:∃ v,p.cell? ⟨g,_+9,_⟩=some v:=⟨_,zU d.out hlt (by decide)⟩
   have f9:=World.ownsRow.frozenAt d.out (t*13+9);obtain⟨u10,b1⟩:∃ v,p.cell? ⟨g,_+10,_⟩=some v:=⟨_,zU d.out hlt (by decide)⟩
   have a3:=World.ownsRow.frozenAt d.out (t*13+10);obtain⟨u11,b2⟩:∃ v,p.cell? ⟨g,_+11,_⟩=some v:=⟨_,zU d.out hlt (by decide)⟩
   have a6:=World.ownsRow.frozenAt d.out (t*13+11);obtain⟨u12,b3⟩:∃ v,p.cell? ⟨g,_+12,_⟩=some v:=⟨_,zU d.out hlt (by decide)⟩
   have a7:=World.ownsRow.frozenAt d.out (t*13+12);go_wp2;go_roundw
   case rel =>
    have e0:=j.out;have S4:=Zr d.out t 4 (((kB S k0 t+3+(S t).lgn:Nat):Int)) (by simp only[Zb,List.length_set];rfl) (by decide)
    have S5:=Zr S4 t 5 (int i64 (((kB S k0 t+3+(S t).lgn:Nat):Int)+1)) (by simp only[Zb,List.length_set];rfl) (by decide)
    have S6:=Zr S5 t 6 (int i64 (((kB S k0 t+3+(S t).lgn:Nat):Int)+1+1)) (by simp only[Zb,List.length_set];rfl) (by decide)
    have S7:=Zr S6 t 7 (int i64 (((kB S k0 t+3+(S t).lgn:Nat):Int)+1+1+1)) (by simp only[Zb,List.length_set];rfl) (by decide)
    have S8:=Zr S7 t 8 (.bool ((((kB S k0 t+3+(S t).lgn:Nat):Int)+1+1+1+1) % 3 == 0)) (by simp only[Zb,List.length_set];rfl) (by decide)
    have S9:=Zr S8 t 9 (int i64 (((kB S k0 t+3+(S t).lgn:Nat):Int)+1+1+1+1+1)) (by simp only[Zb,List.length_set];rfl) (by decide)
    have W:=Zr S9 t 10 (int i64 (((kB S k0 t+3+(S t).lgn:Nat):Int)+1+1+1+1+1+1)) (by simp only[Zb,List.length_set];rfl) (by decide)
    have X:=Zr W t 11 (int i64 (((kB S k0 t+3+(S t).lgn:Nat):Int)+1+1+1+1+1+1+1)) (by simp only[Zb,List.length_set];rfl) (by decide)
    have Y:=Zr X t 12 (int i64 (((kB S k0 t+3+(S t).lgn:Nat):Int)+1+1+1+1+1+1+1+1)) (by simp only[Zb,List.length_set];rfl) (by decide)
    have C:=((((((((((zx.refl p (fun b=>b=g)).set (a:=(g,t*13+4)) rfl (((kB S k0 t+3+(S t).lgn:Nat):Int))).set (a:=(g,t*13+5)) rfl (int i64 (((kB S k0 t+3+(S t).lgn:Nat):Int)+1))).set (a:=(g,t*13+6)) rfl (int i64 (((kB S k0 t+3+(S t).lgn:Nat):Int)+1+1))).set (a:=(g,t*13+7)) rfl (int i64 (((kB S k0 t+3+(S t).lgn:Nat):Int)+1+1+1))).set (a:=(g,t*13+8)) rfl (.bool ((((kB S k0 t+3+(S t).lgn:Nat):Int)+1+1+1+1) % 3 == 0))).set (a:=(g,t*13+9)) rfl (int i64 (((kB S k0 t+3+(S t).lgn:Nat):Int)+1+1+1+1+1))).set (a:=(g,t*13+10)) rfl (int i64 (((kB S k0 t+3+(S t).lgn:Nat):Int)+1+1+1+1+1+1))).set (a:=(g,t*13+11)) rfl (int i64 (((kB S k0 t+3+(S t).lgn:Nat):Int)+1+1+1+1+1+1+1))).set (a:=(g,t*13+12)) rfl (int i64 (((kB S k0 t+3+(S t).lgn:Nat):Int)+1+1+1+1+1+1+1+1)))
    have M:∀ i,_->_->∀ b,_->_≠_:=fun i A a0 b h1 h2=>by
     rcases Nat.lt_or_gt_of_ne a0 with h|h
     ·exact s.out.apart i t h hlt b h1 h2
     ·exact s.out.apart t i h A b h2 h1
    rw[r.out] at M;refine⟨_,kB S k0 (t+1),by omega,by go_num,?_,rfl,⟨zbs Y (by decide) (fun i A=>?_),fun i A=>?_,s.out.apart⟩,?_⟩
    ·congr 1
     show _=((_+_:Nat):Int)
     (try unfold wrap64);omega
    ·by_cases e:i=t
     ·subst e
      simp only[Zb];unfold bkC;rw[zhq (show i<i+1 by omega),zhr (show ¬ i<i by omega)]
      simp only[sZ,sS,mB];rw[e0];simp only[List.cons.injEq,Value.int.injEq,true_and,and_true];refine⟨by omega,by omega,by omega,by omega,?_,by omega,by omega,by omega,by omega⟩
      rw[show((kB S k0 i+3+(S i).lgn:Nat):Int)+1+1+1+1=((kB S k0 i+7+(S i).lgn:Nat):Int) by omega]
     ·simp only[ziy _ _ _ e]
      unfold bkC;rw[zii e]
    ·by_cases e:i=t
     ·subst e
      rw[zhq (by omega),r.out]
      exact C.own H.out (fun b n e=>zI d.out H.out (by decide) b ((f b).2 e) n)
     ·rw[zii e]
      have a1:=s.out.legs i A;have a4:=F.out.own a1 (fun b n e=>zI s.out.row a1 (by decide) b ((f b).2 e) n)
      have a5:=E.out.own a4 (fun b n e2=>M i A e b n e2)
      exact C.own a5 (fun b n e=>zI d.out a5 (by decide) b ((f b).2 e) n)
    ·exact V.out.trans ((F.out.mono (fun b e=>.inl ((f b).2 e))).trans ((E.out.mono (fun b e=>.inr ⟨t,hlt,by rw[r.out];exact e⟩)).trans (C.mono (fun b e=>.inl ((f b).2 e)))))
   case measure=>simp[intOf];omega
  ·obtain rfl:t=N:=by omega
   have s:=hI o;clear o;go_wp2;go_ret;refine⟨by rw[j.out];rfl,?_,hk⟩
   exact s.out.congr (fun i A=>zhq A)
theorem zmt (G:Option Addr)(N c k0:Nat)(S:Nat->ql)(w:World)(hN:N<=1048576)(h1:k0<=8000000000000)(J:∀ i,i<N->(S i).lgn<=1048576)(K:qO w G N (mB S k0)) :
  Calls Tryz.prog 68 #[(G,N,c),(k0:Int)] w fun e w'=>e=.returned ((kB S k0 N:Nat):Int)/\Below w.heap.size w w':=by
 have D:=hI J;have M:=hI K;clear J K;go_enter Tryz.func68,Tryz.ntmps68;go_wp2;go_loopw [1,5] (fun q i wr=>∃ (t k:Nat),t<=N/\i=int i64 t/\q=int i64 k/\k=kB S k0 t/\Below w.heap.size w wr) (fun _ i _=>N - (intOf i).toNat)
 case atStart=>exact⟨0,k0,Nat.zero_le _,rfl,rfl,rfl,bZ⟩
 case round =>
  obtain⟨t,k,V,rfl,rfl,y,g⟩:=hrel;have l:=hI y;have kb:k<=10000000000000:=by have:=kB_le (k0:=k0) D.out t V;omega
  clear y
  by_cases hlt:t<N
  ·obtain⟨E,I,hI⟩:=M.out
   obtain⟨b,off,rfl,d⟩:=I t hlt;obtain⟨al,cl,f,z,C⟩:=hI t hlt;have B:=D.out t hlt;have j:b<w.heap.size:=World.block_lt_of_cell? w _ (d 0 (by decide))
   have i1:(t:Int)<(N:Int):=by omega
   obtain⟨L,n⟩:∃ s,s=zbl ((k:Int)+1+1).toNat:=⟨_,rfl⟩;have A:Hid _:=n;have H:=l.out;have p:=hI z;have o:Hid (∀ w',Below _ w w'->w'.cell? ⟨b,off+_,_⟩=some (.int _ (k:Int))/\w'.cell? ⟨b,_,_⟩=some (.int _ ((k:Int)+1))/\w'.cell? ⟨b,_,_⟩=some (.string L)/\w'.cell? ⟨b,_,_⟩=some (al,(S t).lgn,cl)/\w'.cell? ⟨b,_,_⟩=some (.int _ (((_:Nat):Int)))/\w'.cell? ⟨b,_,_⟩=some (.int _ (((kB S k0 t+3+(S t).lgn:Nat):Int)+1))/\w'.cell? ⟨b,_,_⟩=some (.int _ (((kB S k0 t+3+(S t).lgn:Nat):Int)+1+1))/\w'.cell? ⟨b,_,_⟩=some (.int _ (((kB S k0 t+3+(S t).lgn:Nat):Int)+1+1+1))/\w'.cell? ⟨b,_,_⟩=some (.bool (((_:Int)+1+1+1+1) % 3 == 0))/\w'.cell? ⟨b,_,_⟩=some (.int _ (((kB S k0 t+3+(S t).lgn:Nat):Int)+1+1+1+1+1))/\w'.cell? ⟨b,_,_⟩=some (.int _ (((kB S k0 t+3+(S t).lgn:Nat):Int)+1+1+1+1+1+1))/\w'.cell? ⟨b,_,_⟩=some (.int _ (((kB S k0 t+3+(S t).lgn:Nat):Int)+1+1+1+1+1+1+1))/\w'.cell? ⟨b,_,_⟩=some (.int _ (((kB S k0 t+3+(S t).lgn:Nat):Int)+1+1+1+1+1+1+1+1))):=fun w' h=>by
    refine⟨(h.cell j).trans ?_,(h.cell j).trans ?_,(h.cell j).trans ?_,(h.cell j).trans ?_,(h.cell j).trans ?_,(h.cell j).trans ?_,(h.cell j).trans ?_,(h.cell j).trans ?_,(h.cell j).trans ?_,(h.cell j).trans ?_,(h.cell j).trans ?_,(h.cell j).trans ?_,(h.cell j).trans ?_⟩
    ·have a:=d 0 (by decide);rw[f] at a;refine a.trans ?_;show some (Value.int _ ((_:Nat):Int))=_;rw[H]
    ·have a:=d 1 (by decide);rw[f] at a;refine a.trans ?_;show some (Value.int _ ((_:Nat):Int))=_;congr 2;omega
    ·have a:=d 2 (by decide);rw[f] at a;refine a.trans ?_;show some (Value.string (zbl (_+2)))=_;rw[n,show((k:Int)+1+1).toNat=kB S k0 t+2 by omega]
    ·have a:=d 3 (by decide);rw[f] at a;refine a.trans ?_;rfl
    ·have a:=d 4 (by decide);rw[f] at a;refine a.trans ?_;rfl
    ·have a:=d 5 (by decide);rw[f] at a;refine a.trans ?_;show some (Value.int _ ((_:Nat):Int))=_;congr 2;omega
    ·have a:=d 6 (by decide);rw[f] at a;refine a.trans ?_;show some (Value.int _ ((_:Nat):Int))=_;congr 2;omega
    ·have a:=d 7 (by decide);rw[f] at a;refine a.trans ?_;show some (Value.int _ ((_:Nat):Int))=_;congr 2;omega
    ·have a:=d 8 (by decide);rw[f] at a;refine a.trans ?_;show some (Value.bool (_ == 0))=_;rw[show((kB S k0 t+3+(S t).lgn:Nat):Int)+1+1+1+1=((kB S k0 t+7+(S t).lgn:Nat):Int) by omega]
    ·have a:=d 9 (by decide);rw[f] at a;refine a.trans ?_;show some (Value.int _ ((_:Nat):Int))=_;congr 2;omega
    ·have a:=d 10 (by decide);rw[f] at a;refine a.trans ?_;show some (Value.int _ ((_:Nat):Int))=_;congr 2;omega
    ·have a:=d 11 (by decide);rw[f] at a;refine a.trans ?_;show some (Value.int _ ((_:Nat):Int))=_;congr 2;omega
    ·have a:=d 12 (by decide);rw[f] at a;refine a.trans ?_;show some (Value.int _ ((_:Nat):Int))=_;congr 2;omega
   clear I hI d f z C n H;obtain⟨O,c1,c2,_⟩:=o.out wr g;have n0:((k:Int) != (k:Int))=false:=by simp
   have n1:((k:Int)+1 != (k:Int)+1)=false:=by simp
   go_upto_region 10 with fail;clear O c1;go_cut [1,5,37] (fun q i v X=>q=int i64 ((k:Int)+1+1)/\i=int i64 t/\v=.bool false/\Below w.heap.size w X)
   case first =>
    go_region_held3 (fun w'=>w'.cell? (b,off+t*13+2)=some (.string L))
     ((first|exact c2|exact(o.out _ (ze g.drew r)).2.2.1))
     (first|(go_at_call 71;refine(zau _ _ (by omega) (by omega)).mono ?_;rintro e w3 ⟨rfl,r⟩;rw[← A.out]))
    all_goals
     go_wp2;go_meet;exact⟨rfl,rfl,by simp,ze g.drew r⟩
   case rest =>
    obtain⟨rfl,rfl,rfl,m⟩:=hcut;clear c2;obtain⟨_,_,_,c3,_⟩:=o.out _ m;go_wp2_with fail;refine(heldIntZ _ al _ cl _ _ (by have:=l.out;omega) B (by have:=l.out;omega) (p.out.below m)).mono ?_
    rintro e w5 ⟨rfl,u⟩;have x:=ze m u;clear c3 m u p;obtain⟨_,_,_,_,c4,c5,c6,c7,c8,c9,P,Q,R⟩:=o.out _ x;have U:kB S k0 t+3+(S t).lgn<=20000000000000:=by have:=l.out;omega
    have hd:decide (((kB S k0 t+3+(S t).lgn:Nat):Int)<0)=false:=decide_eq_false (by omega)
    have T:¬ ((kB S k0 t+3+(S t).lgn:Nat):Int)<0:=by omega
    clear o;generalize hK4:((_+_:Nat):Int)=F at *;have W:0<=F/\F<=20000000000000:=by omega
    go_wp2;go_roundw
    case rel =>
     refine⟨_,kB S k0 (t+1),by omega,by go_num,?_,rfl,x⟩
     show _=Value.int _ ((_+_:Nat):Int)
     congr 1
     (try unfold wrap64);omega
    case measure=>simp[intOf];omega
  ·obtain rfl:t=N:=by omega
   go_wp2;go_ret;exact⟨by rw[l.out];rfl,g⟩
section
open Go.RowKit
def OffB (v1 v2 v3:Value)(a c d:Nat)(L C A B D E:Nat->Value)(b:Nat):Prop:=SaB v1 a L C b∨v2.ownBlock=some b∨LdB c A B D b∨BkB v3 d E b
section
variable {w w' : World} {base : Nat} {v1 v2 v3 : Value} {n1 n2 n3 : Nat} {x : Off} {L C A B D E : Nat -> Value}
theorem zF.blk (h:zF w base v1 v2 v3 n1 n2 n3 x L C A B D E):∀ b,OffB v1 v2 v3 n1 n2 n3 L C A B D E b->base<=b/\b<w.heap.size:=by
 rintro b ((e|⟨i,a,e|e⟩)|e|⟨i,a,e|e|e⟩|e|⟨i,a,e⟩)
 ·exact h.sa.row.lt b e
 ·exact(h.sa.la i a).lt b e
 ·exact(h.sa.ca i a).lt b e
 ·exact h.ld.row.lt b e
 ·exact(h.ld.st i a).lt b e
 ·exact(h.ld.ro i a).lt b e
 ·exact(h.ld.se i a).lt b e
 ·exact h.bk.row.lt b e
 ·exact(h.bk.legs i a).lt b e
theorem zF.keep {T:Nat->Prop}(h:zF w base v1 v2 v3 n1 n2 n3 x L C A B D E)(d:zx w w' T)(c:∀ b,OffB v1 v2 v3 n1 n2 n3 L C A B D E b->¬ T b):zF w' base v1 v2 v3 n1 n2 n3 x L C A B D E :=
 ⟨⟨d.own h.sa.row (fun g e s=>c g (.inl (.inl e)) s),fun i a=>d.own (h.sa.la i a) (fun g e s=>c g (.inl (.inr ⟨i,a,.inl e⟩)) s),fun i a=>d.own (h.sa.ca i a) (fun g e s=>c g (.inl (.inr ⟨i,a,.inr e⟩)) s),h.sa.apart⟩,
  ⟨d.own h.ld.row (fun g e s=>c g (.inr (.inl e)) s),fun i a=>d.own (h.ld.st i a) (fun g e s=>c g (.inr (.inr (.inl ⟨i,a,.inl e⟩))) s),fun i a=>d.own (h.ld.ro i a) (fun g e s=>c g (.inr (.inr (.inl ⟨i,a,.inr (.inl e)⟩))) s),fun i a=>d.own (h.ld.se i a) (fun g e s=>c g (.inr (.inr (.inl ⟨i,a,.inr (.inr e)⟩))) s),h.ld.far⟩,
  ⟨d.own h.bk.row (fun g e s=>c g (.inr (.inr (.inr (.inl e)))) s),fun i a=>d.own (h.bk.legs i a) (fun g e s=>c g (.inr (.inr (.inr (.inr ⟨i,a,e⟩)))) s),h.bk.apart⟩⟩
theorem zF.noRow {c t sz n:Nat}{u:Value}{r:List Value}(h:zF w base v1 v2 v3 n1 n2 n3 x L C A B D E)(hr:w.ownsRow c t sz u n r)(d:140≠t/\223≠t/\231≠t/\145≠t/\220≠t/\228≠t/\234≠t/\150≠t/\3≠t):∀ b,OffB v1 v2 v3 n1 n2 n3 L C A B D E b->u.ownBlock≠some b:=by
 obtain⟨f,g,j,k,l,m,o,p,q⟩:=d;rintro b ((e|⟨i,a,e|e⟩)|e|⟨i,a,e|e|e⟩|e|⟨i,a,e⟩)
 ·exact zI h.sa.row hr f b e
 ·exact zI (h.sa.la i a) hr g b e
 ·exact zI (h.sa.ca i a) hr j b e
 ·exact zI h.ld.row hr k b e
 ·exact zI (h.ld.st i a) hr l b e
 ·exact zI (h.ld.ro i a) hr m b e
 ·exact zI (h.ld.se i a) hr o b e
 ·exact zI h.bk.row hr p b e
 ·exact zI (h.bk.legs i a) hr q b e
end
def kO (x:Off):Nat:=kB x.bk (kL x.ld (kS x.sa 1 x.san) x.ldn) x.bkn
def mO (x:Off):Off:={ x with sa:=mS x.sa 1,ld:=mL x.ld (kS x.sa 1 x.san),bk:=mB x.bk (kL x.ld (kS x.sa 1 x.san) x.ldn) }
theorem kO_le {x:Off}(h1:x.san<=1000)(h2:x.ldn<=1000)(h3:x.bkn<=1000)(e:Off.Short x 1048576):kS x.sa 1 x.san<=5000000000/\kL x.ld (kS x.sa 1 x.san) x.ldn<=20000000000/\kO x<=30000000000:=by
 have a:=kS_le (k0:=1) (fun i d=>⟨(e.1.2 i d).2.2.1,(e.1.2 i d).2.2.2⟩) _ (Nat.le_refl _)
 have b:=kL_le (k0:=kS x.sa 1 x.san) e.2.1.2 _ (Nat.le_refl _);have c:=kB_le (k0:=kL x.ld (kS x.sa 1 x.san) x.ldn) (fun i d=>(e.2.2.2 i d).2) _ (Nat.le_refl _)
 refine⟨by omega,by omega,?_⟩
 unfold kO
 omega
theorem zhs (x:Off)(m g h:Option Addr)(c1 c2 c3 base:Nat)(L C A B D E:Nat->Value)(w:World)(h1:x.san<=1000)(h2:x.ldn<=1000)(h3:x.bkn<=1000)(O:Off.Short x 1048576)(N:zF w base (m,x.san,c1) (g,x.ldn,c2) (h,x.bkn,c3) x.san x.ldn x.bkn x L C A B D E) :
  Calls Tryz.prog 15 #[.agg #[(m,x.san,c1),(g,x.ldn,c2),(h,x.bkn,c3)],int i64 1] w fun e w'=>e=.returned ((kO x:Nat):Int)/\zF w' base (m,x.san,c1) (g,x.ldn,c2) (h,x.bkn,c3) x.san x.ldn x.bkn (mO x) L C A B D E/\zx w w' (OffB (m,x.san,c1) (g,x.ldn,c2) (h,x.bkn,c3) x.san x.ldn x.bkn L C A B D E):=by
 have Q:=hI (kO_le h1 h2 h3 O);have H:=hI O;have p:Below _ w (w.alloc (.cells #[(m,x.san,c1),(g,x.ldn,c2),(h,x.bkn,c3)] 38)):=zk bZ _;have M:=heap_alloc_new w (.cells #[(m,x.san,c1),(g,x.ldn,c2),(h,x.bkn,c3)] 38);have v:Hid (∀ b,_->b≠w.heap.size):=fun b e=>by have:=(N.blk b e).2;omega
 have f:=hI (N.below p);have n:=hI (zx.of_below p);clear O N p;go_enter Tryz.func15,Tryz.ntmps15;go_wp2_with fail;generalize w.alloc _=V at M f n ⊢;refine(zjp m _ c1 _ 1 _ L C V (by omega) (by decide) (fun i a=>⟨(H.out.1.2 i a).2.2.1,(H.out.1.2 i a).2.2.2⟩) f.out.sa).mono ?_
 rintro e I ⟨rfl,z,j⟩;have r:zx V I (OffB _ (g,x.ldn,c2) (h,x.bkn,c3) _ x.ldn x.bkn L C A B D E):=j.mono (fun b e=>.inl e)
 have o:=r.blk M (fun e=>v.out _ e rfl)
 have c:Hid (zF I _ _ _ _ _ _ _ { x with sa:=mS _ 1 } L C A B D E) :=
  ⟨z,f.out.ld.other j (fun b e=>by
    rcases e with e|⟨i,a,e|e⟩
    ·obtain⟨cs,q⟩:=zA f.out.sa.row b e;exact⟨cs,_,q,by decide,by decide,by decide,by decide⟩
    ·obtain⟨cs,q⟩:=zA (f.out.sa.la i a) b e;exact⟨cs,_,q,by decide,by decide,by decide,by decide⟩
    ·obtain⟨cs,q⟩:=zA (f.out.sa.ca i a) b e;exact⟨cs,_,q,by decide,by decide,by decide,by decide⟩),
   f.out.bk.other j (fun b e=>by
    rcases e with e|⟨i,a,e|e⟩
    ·obtain⟨cs,q⟩:=zA f.out.sa.row b e;exact⟨cs,_,q,by decide,by decide⟩
    ·obtain⟨cs,q⟩:=zA (f.out.sa.la i a) b e;exact⟨cs,_,q,by decide,by decide⟩
    ·obtain⟨cs,q⟩:=zA (f.out.sa.ca i a) b e;exact⟨cs,_,q,by decide,by decide⟩)⟩
 have t:=hI (n.out.trans r);clear z j r f n M;have S:=za o 1 _ rfl;go_wp2_with fail;refine(zmq g _ c2 _ _ _ A B D I h2 (by have:=Q.out.1;omega) H.out.2.1.2 c.out.ld).mono ?_
 rintro e P ⟨rfl,F,k⟩;have s:zx I P (OffB (m,x.san,c1) (g,x.ldn,c2) (h,x.bkn,c3) x.san _ x.bkn L C A B D E):=k.mono (fun b e=>.inr (.inr (.inl e)))
 have y:=s.blk o (fun e=>v.out _ e rfl)
 have d:Hid (zF P _ _ _ _ _ _ _ { x with sa:=_,ld:=mL _ _ } L C A B D E) :=
  ⟨c.out.sa.other k (fun b e=>by
    rcases e with⟨i,a,e|e|e⟩
    ·obtain⟨cs,q⟩:=zA (c.out.ld.st i a) b e;exact⟨cs,_,q,by decide,by decide,by decide⟩
    ·obtain⟨cs,q⟩:=zA (c.out.ld.ro i a) b e;exact⟨cs,_,q,by decide,by decide,by decide⟩
    ·obtain⟨cs,q⟩:=zA (c.out.ld.se i a) b e;exact⟨cs,_,q,by decide,by decide,by decide⟩),F,
   c.out.bk.other k (fun b e=>by
    rcases e with⟨i,a,e|e|e⟩
    ·obtain⟨cs,q⟩:=zA (c.out.ld.st i a) b e;exact⟨cs,_,q,by decide,by decide⟩
    ·obtain⟨cs,q⟩:=zA (c.out.ld.ro i a) b e;exact⟨cs,_,q,by decide,by decide⟩
    ·obtain⟨cs,q⟩:=zA (c.out.ld.se i a) b e;exact⟨cs,_,q,by decide,by decide⟩)⟩
 have u:=hI (t.out.trans s);clear F k s c t o S;have T:=za y 2 _ rfl;go_wp2_with fail;refine(zms h _ c3 _ _ _ E P (by omega) (by have:=Q.out.2.1;omega) (fun i a=>(H.out.2.2.2 i a).2) d.out.bk).mono ?_
 rintro e R ⟨rfl,G,l⟩;have K:Hid (zF R _ _ _ _ _ _ _ (mO x) L C A B D E) :=
  ⟨d.out.sa.other l (fun b e=>by
    rcases e with e|⟨i,a,e⟩
    ·obtain⟨cs,q⟩:=zA d.out.bk.row b e;exact⟨cs,_,q,by decide,by decide,by decide⟩
    ·obtain⟨cs,q⟩:=zA (d.out.bk.legs i a) b e;exact⟨cs,_,q,by decide,by decide,by decide⟩),
   d.out.ld.other l (fun b e=>by
    rcases e with e|⟨i,a,e⟩
    ·obtain⟨cs,q⟩:=zA d.out.bk.row b e;exact⟨cs,_,q,by decide,by decide,by decide,by decide⟩
    ·obtain⟨cs,q⟩:=zA (d.out.bk.legs i a) b e;exact⟨cs,_,q,by decide,by decide,by decide,by decide⟩),G⟩
 have J:=hI (u.out.trans (l.mono (fun b e=>.inr (.inr (.inr e)))))
 clear G l d u y T;go_wp2;go_ret;exact⟨rfl,K.out,J.out⟩
theorem zdF (x:Off)(b c d:Option Addr)(c1 c2 c3:Nat)(w:World)(h1:x.san<=1000)(h2:x.ldn<=1000)(h3:x.bkn<=1000)(l:Off.Short x 1048576)(o:qB w b x.san (mO x).sa/\ZG w c x.ldn (mO x).ld/\qO w d x.bkn (mO x).bk) :
  Calls Tryz.prog 18 #[.agg #[(b,x.san,c1),(c,x.ldn,c2),(d,x.bkn,c3)],int i64 1] w fun e w'=>e=.returned ((kO x:Nat):Int)/\Below w.heap.size w w':=by
 have n:=hI (kO_le h1 h2 h3 l);have h:=hI l;have k:=hI o;clear l o;have a:Below _ w (w.alloc (.cells #[(b,x.san,c1),(c,x.ldn,c2),(d,x.bkn,c3)] 38)):=zk bZ _;have f:=heap_alloc_new w (.cells #[(b,x.san,c1),(c,x.ldn,c2),(d,x.bkn,c3)] 38);go_enter Tryz.func18,Tryz.ntmps18;go_wp2_with fail;generalize w.alloc _=V at a f ⊢;refine(zjq b _ c1 1 _ V (by omega) (by decide) (fun i j=>⟨(h.out.1.2 i j).2.2.1,(h.out.1.2 i j).2.2.2⟩) (k.out.1.below a)).mono ?_
 rintro e p ⟨rfl,g⟩;replace f:=zb f g;replace a:=ze a g;clear g;have y1:=za f 1 _ rfl;have e0:decide (((kS x.sa 1 x.san:Nat):Int)<0)=false:=decide_eq_false (by omega)
 go_wp2_with fail;refine(zmr c _ c2 _ _ p h2 (by have:=n.out.1;omega) h.out.2.1.2 (k.out.2.1.below a)).mono ?_
 rintro e w2 ⟨rfl,m⟩;have m:=m.symm;subst m;have y2:=za f 2 _ rfl;have e1:decide (((kL x.ld (kS x.sa 1 x.san) x.ldn:Nat):Int)<0)=false:=decide_eq_false (by omega)
 go_wp2_with fail;refine(zmt d _ c3 _ _ _ (by omega) (by have:=n.out.2.1;omega) (fun i j=>(h.out.2.2.2 i j).2) (k.out.2.2.below a)).mono ?_
 rintro e w3 ⟨rfl,g⟩;replace a:=ze a g;have e2:decide (((kB x.bk (kL x.ld (kS x.sa 1 x.san) x.ldn) x.bkn:Nat):Int)<0)=false:=decide_eq_false (by omega)
 go_wp2;go_ret;exact⟨rfl,a⟩
end
def zdd (w:World)(base t sz b n:Nat)(Q:List Value->Prop):Prop:=∃ xs,Q xs/\w.ownsRow base t sz (some (b,0),n,n) n xs
theorem zld {w:World}{base t sz b n:Nat}{j:List Value}(h:w.ownsRow base t sz (some (b,0),n,n) n j):∃ a,w.heap[b]?=some (.cells a t (0,0))/\a.size=n*sz:=by
 rcases h.2 with⟨e,_⟩|⟨g,d,a,c,_,f,_,_,i,_⟩
 ·cases e
 ·simp only[Value.slice.injEq,Option.some.injEq,Addr.mk.injEq] at c
  obtain⟨⟨rfl,_,_⟩,_,rfl⟩:=c;exact⟨a,f,i⟩
theorem zdd.after {w w':World}{base t sz b n j a g l:Nat}{Q o:List Value->Prop}(h:zdd w base t sz b n Q)(r:zdd w base j a g l o)(s:zx w w' (fun x=>x=g))(y:0<sz)(q:t=j->sz=a)(v:t=j->n=l->zdd w' base t sz g n Q):zdd w' base t sz b n Q:=by
 by_cases e:b=g
 ·subst e
  obtain⟨m,k,f⟩:=h;obtain⟨ys,u,i⟩:=r;obtain⟨c1,p,z⟩:=zld f;obtain⟨c2,c,A⟩:=zld i;rw[p] at c;simp only[Option.some.injEq,Obj.cells.injEq] at c;obtain⟨rfl,rfl,_⟩:=c;obtain rfl:=q rfl;exact v rfl (Nat.eq_of_mul_eq_mul_right y (z.symm.trans A))
 ·obtain⟨m,k,f⟩:=h
  exact⟨m,k,s.own f (fun b' d e'=>by simp only[Value.ownBlock,Option.some.injEq] at d;omega)⟩
theorem zdd.kept {w w':World}{base t sz b n:Nat}{Q:List Value->Prop}{T:Nat->Prop}(h:zdd w base t sz b n Q)(e:zx w w' T)(d:¬ T b):zdd w' base t sz b n Q:=by
 obtain⟨i,g,f⟩:=h;exact⟨i,g,e.own f (fun b' a c=>by simp only[Value.ownBlock,Option.some.injEq] at a;subst a;exact d c)⟩
def zep (w:World)(base b n:Nat):Prop:=zdd w base 220 4 b n (fun a=>∃ S,a=zy S n)
def zeq (w:World)(base b n:Nat):Prop:=zdd w base 228 4 b n (fun a=>∃ S,a=zw S n)
def zer (w:World)(base b n:Nat):Prop:=zdd w base 234 2 b n (fun a=>∃ S,a=zB S n)
theorem zle {w:World}{base b n:Nat}{k:Int}(hn:n<=1048576)(f:0<=k)(h1:k<=1000000000000000)(h:zep w base b n) :
  Calls Tryz.prog 129 #[(some (b,0),n,n),k] w fun e w'=>e=.returned (int i64 (k+4*n))/\zep w' base b n/\zx w w' (fun x=>x=b):=by
 obtain⟨_,⟨S,rfl⟩,g⟩:=h;exact(zeT _ n n _ S k w (by omega) f h1 g).mono fun _ _ ⟨a,b,c⟩=>⟨a,⟨_,⟨_,rfl⟩,b⟩,c.mono (fun x d=>by simp only[Value.ownBlock,Option.some.injEq] at d;exact d.symm)⟩
theorem zlf {w:World}{base b n:Nat}{k:Int}(hn:n<=1048576)(f:0<=k)(h1:k<=1000000000000000)(h:zeq w base b n) :
  Calls Tryz.prog 130 #[(some (b,0),n,n),k] w fun e w'=>e=.returned (int i64 (k+4*n))/\zeq w' base b n/\zx w w' (fun x=>x=b):=by
 obtain⟨_,⟨S,rfl⟩,g⟩:=h;exact(zeU _ n n _ S k w (by omega) f h1 g).mono fun _ _ ⟨a,b,c⟩=>⟨a,⟨_,⟨_,rfl⟩,b⟩,c.mono (fun x d=>by simp only[Value.ownBlock,Option.some.injEq] at d;exact d.symm)⟩
theorem zlg {w:World}{base b n:Nat}{k:Int}(hn:n<=1048576)(f:0<=k)(h1:k<=1000000000000000)(h:zer w base b n) :
  Calls Tryz.prog 131 #[(some (b,0),n,n),k] w fun e w'=>e=.returned (int i64 (k+2*n))/\zer w' base b n/\zx w w' (fun x=>x=b):=by
 obtain⟨_,⟨S,rfl⟩,g⟩:=h;exact(zeV _ n n _ S k w (by omega) f h1 g).mono fun _ _ ⟨a,b,c⟩=>⟨a,⟨_,⟨_,rfl⟩,b⟩,c.mono (fun x d=>by simp only[Value.ownBlock,Option.some.injEq] at d;exact d.symm)⟩
def zaH (w:World)(base N:Nat)(S:Nat->zY)(a b c:Nat->Nat):Prop :=
 ∀ i,i<N->zep w base (a i) (S i).stn/\zeq w base (b i) (S i).ron/\zer w base (c i) (S i).sen
theorem zaH.stay {w w':World}{base N g n:Nat}{S:Nat->zY}{f j k:Nat->Nat}(h:zaH w base N S f j k)(a:zep w base g n)(b:zep w' base g n)(d:zx w w' (fun x=>x=g)):zaH w' base N S f j k:=fun i c =>
 ⟨(h i c).1.after a d (by omega) (fun _=>rfl) (fun _ e=>by rw[e];exact b),(h i c).2.1.after a d (by omega) (fun h=>absurd h (by decide)) (fun h=>absurd h (by decide)),(h i c).2.2.after a d (by omega) (fun h=>absurd h (by decide)) (fun h=>absurd h (by decide))⟩
theorem zaH.room {w w':World}{base N g n:Nat}{S:Nat->zY}{f j k:Nat->Nat}(h:zaH w base N S f j k)(a:zeq w base g n)(b:zeq w' base g n)(d:zx w w' (fun x=>x=g)):zaH w' base N S f j k:=fun i c =>
 ⟨(h i c).1.after a d (by omega) (fun h=>absurd h (by decide)) (fun h=>absurd h (by decide)),(h i c).2.1.after a d (by omega) (fun _=>rfl) (fun _ e=>by rw[e];exact b),(h i c).2.2.after a d (by omega) (fun h=>absurd h (by decide)) (fun h=>absurd h (by decide))⟩
theorem zaH.seat {w w':World}{base N g n:Nat}{S:Nat->zY}{f j k:Nat->Nat}(h:zaH w base N S f j k)(a:zer w base g n)(b:zer w' base g n)(d:zx w w' (fun x=>x=g)):zaH w' base N S f j k:=fun i c =>
 ⟨(h i c).1.after a d (by omega) (fun h=>absurd h (by decide)) (fun h=>absurd h (by decide)),(h i c).2.1.after a d (by omega) (fun h=>absurd h (by decide)) (fun h=>absurd h (by decide)),(h i c).2.2.after a d (by omega) (fun _=>rfl) (fun _ e=>by rw[e];exact b)⟩
theorem zjw (g N lo n k0:Nat)(S:Nat->zY)(C:Nat->List Value)(w:World)(hN:N<=1048576)(a1:k0<=10000000000000)(O:ZA N S 1048576)(x:zan w N lo n g N S C) :
  Calls Tryz.prog 63 #[(some (g,0),N,N),k0] w fun e w'=>(∃ k:Nat,k<=30000000000000/\e=.returned k)/\zx w w' (fun b=>lo<=b/\b<n):=by
 have y:∀ i,i<N->∃ p:Nat × Nat × Nat,(C i=[ZY p.1 (S i).stn,ZY p.2.1 (S i).ron,ZY p.2.2 (S i).sen]/\(g<p.1/\p.1<n)/\(g<p.2.1/\p.2.1<n)/\(g<p.2.2/\p.2.2<n))/\zep w lo p.1 (S i).stn/\zeq w lo p.2.1 (S i).ron/\zer w lo p.2.2 (S i).sen:=by
  intro i hi';obtain⟨a,b,c,e,z,A,B⟩:=x.each i hi';have sh:=O i hi';have E:=x.glo;unfold zY.Short at sh;exact⟨(a,b,c),⟨e,⟨Nat.lt_of_succ_le z.1,z.2.1⟩,⟨Nat.lt_of_succ_le A.1,A.2.1⟩,⟨Nat.lt_of_succ_le B.1,B.2.1⟩⟩,⟨_,⟨_,rfl⟩,Zz z.2.2 (Nat.le_trans (Nat.le_succ_of_le E) z.1) (by unfold maxLen;omega)⟩,⟨_,⟨_,rfl⟩,Zz A.2.2 (Nat.le_trans (Nat.le_succ_of_le E) A.1) (by unfold maxLen;omega)⟩,⟨_,⟨_,rfl⟩,Zz B.2.2 (Nat.le_trans (Nat.le_succ_of_le E) B.1) (by unfold maxLen;omega)⟩⟩
 obtain⟨p,M⟩:=Go.Deep.choose_lt y;have HP:=hI (fun i hi'=>(M i hi').1)
 have v:zaH w lo N S _ _ _:=fun i hi'=>(M i hi').2
 have V:=hI x;have HS:=hI O;have a0:=x.glo;clear O x y M;go_enter Tryz.func63,Tryz.ntmps63;go_wp2;go_loopw [1,5] (fun q i wr=>∃ t k:Nat,t<=N/\i=int i64 t/\q=int i64 k/\k<=10000000000000+t*10485760/\zaH wr lo N S (fun i=>(p i).1) (fun i=>(p i).2.1) (fun i=>(p i).2.2)/\zx w wr (fun b=>g<b/\b<n)) (fun _ i _=>N - (intOf i).toNat)
 case atStart=>exact⟨0,k0,Nat.zero_le _,rfl,rfl,by omega,v,zx.refl _ _⟩
 case round =>
  obtain⟨t,k,ht,rfl,rfl,a2,F,D⟩:=hrel
  by_cases hlt:t<N
  ·obtain⟨W,b1,b2,b3⟩:=HP.out t hlt
   obtain⟨n1,n2,n3⟩:=HS.out t hlt;have f:∀ w',zx w w' (fun b=>g<b/\b<n)->∀ j,j<3->w'.cell? (g,t*3+j)=some ([ZY (p t).1 (S t).stn,ZY (p t).2.1 (S t).ron,ZY (p t).2.2 (S t).sen].getD j (.bool false)):=by
    intro w' K j hj;have r:=V.out.row.of_block (K.block _ V.out.row.lt (fun s=>by omega))
    rw[r.cell (by omega),zC 3 _ t j hj,qr _ _ hlt,W]
   have h:=hI f;clear f W;have H:wr.cell? ⟨g,t*3,_⟩=some (.slice _ _ _):=h.out wr D 0 (by omega)
   go_wp2_with fail;have d:zep wr lo (p t).1 _:=(F t hlt).1;refine(zle n1 (by omega) (by omega) d).mono ?_
   rintro e T ⟨rfl,X,P⟩;have l:=F.stay d X P;have o:=D.trans (P.mono (fun b e=>by have e:=e;exact⟨by omega,by omega⟩))
   clear F D P X d H;have I:T.cell? _=some (.slice _ _ _):=h.out T o 1 (by omega)
   go_wp2_with fail;have d:zeq T lo (p t).2.1 _:=(l t hlt).2.1;refine(zlf n2 (by omega) (by omega) d).mono ?_
   rintro e U ⟨rfl,Y,Q⟩;have m:=l.room d Y Q;have u:=o.trans (Q.mono (fun b e=>by have e:=e;exact⟨by omega,by omega⟩))
   clear l o Q Y d I;have J:U.cell? _=some (.slice _ _ _):=h.out U u 2 (by omega)
   go_wp2_with fail;have d:zer U lo (p t).2.2 _:=(m t hlt).2.2;refine(zlg n3 (by omega) (by omega) d).mono ?_
   rintro e w4 ⟨rfl,Z,R⟩;have G:=m.seat d Z R;have L:=u.trans (R.mono (fun b e=>by have e:=e;exact⟨by omega,by omega⟩))
   clear m u R Z d J;go_wp2;go_roundw
   case rel=>exact⟨t+1,k+4*_+4*_+2*_,by omega,by go_num,by congr 1,by omega,G,L⟩
   case measure=>simp[intOf];omega
  ·obtain rfl:t=N:=by omega
   go_wp2;go_ret;exact⟨⟨k,by omega,rfl⟩,D.mono (fun b e=>by have e:=e;exact⟨by omega,by omega⟩)⟩
def zij (w:World)(base b n:Nat):Prop:=zdd w base 3 1 b n (fun a=>∃ F,a=zS F n)
theorem zmu {w:World}{base b n:Nat}{k:Int}(hn:n<=1048576)(d:0<=k)(h1:k<=1000000000000000)(h:zij w base b n) :
  Calls Tryz.prog 28 #[(some (b,0),n,n),k] w fun e w'=>e=.returned (int i64 (k+n))/\zij w' base b n/\zx w w' (fun x=>x=b):=by
 obtain⟨_,⟨S,rfl⟩,f⟩:=h;exact(zdE _ n n base S k w (by omega) d h1 f).mono fun _ _ ⟨a,b,c⟩=>⟨a,⟨_,⟨_,rfl⟩,b⟩,c.mono (fun x i=>by obtain⟨g,e,e2⟩:=i;simp only[Option.some.injEq,Addr.mk.injEq] at e;omega)⟩
end Go.Proofs.YtmdnjgihooflfaaGreatDoor

/-
  OWN TEXT: PlainS, PlainFa, DrawPy, KitStay, KitRoom.
-/
import Derived.Deep.DeepCutAuto
import Derived.Deep.CutBlock
import Derived.Test.YtgmdnkngnhkgbaaGreatB02
namespace Go.Proofs.YtgmdnkngnhkgbaaGreat
open Go.RowKit
open Go.Value (int)
open Go.IntKind (i64)
set_option maxHeartbeats 64000000
set_option maxRecDepth 100000
section
open Go.RowKit
theorem dN {B:Nat} {a w:World} (h:Below B a w) (n:Nat):Below B a (w.drewN n):=h.trans ⟨rfl,rfl,rfl,Nat.le_refl _,fun _ _=>rfl⟩
theorem bZ {n:Nat} {w:World}:Below n w w:=Below.refl n w
theorem hI {p:Prop} (h:p):Hid p:=h
theorem sC {P:Program} {f:FuncId} {a:Array Value} {w:World} {r:Ending} {Q:Ending→World→Prop} (h:Calls P f a w fun e w'=>e=r∧w'=w) (q:Q r w):Calls P f a w Q:=h.mono (by rintro e w' ⟨rfl,b⟩;subst b;exact q)
open Go.RowKit
def QT (b:Int):Prop:=(97<=b/\b<=122)∨(65<=b/\b<=90)
def zaP (s:ByteArray)(k:Nat):Int:=if h:k<s.size then ((s[k]'h).toNat:Int) else 0
theorem zcx (s:ByteArray)(k:Nat)(h:k<s.size):((s[k]'h).toNat:Int)=zaP s k:=by unfold zaP;rw[dif_pos h]
instance (b:Int):Decidable (QT b):=by unfold QT;exact inferInstance
def qr (s:ByteArray):Prop:=1<=s.size/\s.size<=12/\∀ k,k<s.size->QT (zaP s k)
instance (s:ByteArray):Decidable (qr s):=by unfold qr;exact inferInstance
def In (x lo a:Int):Prop:=lo<=x/\x<=a
instance (x lo a:Int):Decidable (In x lo a):=by unfold In;exact inferInstance
def Qj (p:zP)(most:Nat)(a b b1 b2:Int):Prop:=p.n<=most/\∀ k,k<p.n->In (p.A k) a b/\In (p.B k) b1 b2
def qn (s:Sail):Prop :=
 In s.id 1 99/\qr s.fr/\qr s.dst/\s.fr≠s.dst/\0<=s.dep/\s.dep<s.arr/\s.arr<=10000/\Qj s.la 4 1 5000 100 500/\Qj s.ca 6 1 3 1 4/\In s.most 0 500
def Z2 (N:Nat)(S:Nat->Sail):Prop:=N<=6/\∀ k,k<N->qn (S k)/\(0<k->(S (k - 1)).id<(S k).id)
theorem zdo {a b:ByteArray}(h:a.toList=b.toList):a=b:=by
 rw[ByteArray.toList_eq,ByteArray.toList_eq] at h;obtain⟨⟨x⟩⟩:=a;obtain⟨⟨y⟩⟩:=b;simp at h;rw[h]
theorem zbl {a b:ByteArray}:(a.toList == b.toList)=true↔a=b:=by
 rw[beq_iff_eq];exact⟨zdo,fun h=>by rw[h]⟩
theorem zcp {a b:ByteArray}:(a.toList == b.toList)=false↔a≠b:=by
 rw[beq_eq_false_iff_ne];exact⟨fun h e=>h (by rw[e]),fun h e=>h (zdo e)⟩
def zar (a b:ByteArray):Prop:=qr a/\qr b/\a≠b
instance (a b:ByteArray):Decidable (zar a b):=by unfold zar;exact inferInstance
theorem bool_eq {a b:Bool}{P:Prop}(h1:a=true↔P)(h2:b=true↔P):a=b:=by
 cases a <;> cases b <;> simp_all
end
structure ZO where
 pe:Int
 len:Int
 hei:Int
 cl:Int
 all:Bool
 be:Int
def zav (l h:Int):Prop:=In l 1 2000/\In h 1 500
instance (l h:Int):Decidable (zav l h):=by unfold zav;exact inferInstance
def zdU (cl:Int)(all:Bool)(be:Int):Prop:=In cl 1 3/\((all=true/\be=0)∨(all=false/\In be 1 4))
instance (cl:Int) (all:Bool) (be:Int):Decidable (zdU cl all be):=by unfold zdU;exact inferInstance
def qw (p:ZO):Prop:=In p.pe 1 20/\((p.len=0/\p.hei=0)∨zav p.len p.hei)/\((p.cl=0/\p.all=false/\p.be=0)∨zdU p.cl p.all p.be)
instance (p:ZO):Decidable (qw p):=by unfold qw;exact inferInstance
def Z3 (l h:Int):Int:=if zav l h then (if 600<l then 90+25*((l - 600+99) / 100) else if 450<l then 90 else 60)+(if 220<h then 30 else 0) else 0
def zaw (cl:Int):Int:=if cl=1 then 30 else if cl=2 then 50 else 80
def Zx (cl:Int)(all:Bool)(be:Int):Int:=if zdU cl all be then (if all then 3*zaw cl else zaw cl*be) else 0
def zcy (pe legs n:Int):Int :=
 let a:=if 8<=pe then n - n / 20 else n
 if legs=3 then a - a / 10 else a
def qN (p:ZO)(legs:Int):Int:=zcy p.pe legs (legs*(40*p.pe+Z3 p.len p.hei+Zx p.cl p.all p.be))
def Qd (price Zy:Int):Int:=if In price 0 1000000/\In Zy (-10000) 10000 then (if 100<=Zy then price else if 20<=Zy then price / 2 else 0) else 0
theorem zdf (l h:Int):0<=Z3 l h/\Z3 l h<=500:=by
 unfold Z3
 by_cases c:zav l h
 ·have a:=c.1
  unfold In at a;rw[if_pos c]
  repeat' split
  all_goals omega
 ·rw[if_neg c];omega
theorem zcj (cl:Int)(all:Bool)(be:Int):0<=Zx cl all be/\Zx cl all be<=320:=by
 have hb:30<=zaw cl/\zaw cl<=80:=by unfold zaw;repeat' split <;> omega
 unfold Zx
 by_cases c:zdU cl all be
 ·rw[if_pos c]
  cases all with
  | true=>simp;omega
  | false =>
   rcases c.2 with⟨h,_⟩|⟨_,h⟩
   ·cases h
   ·unfold In at h
    have a:be=1∨be=2∨be=3∨be=4:=by omega
    rcases a with rfl|rfl|rfl|rfl <;> simp <;> omega
 ·rw[if_neg c];omega
theorem CurIs.box {u:World}{g n c a B:Nat}{f:Option Addr}(h:CurIs u g f n c a)(q:g≠B)(r:∀ k,k<n->∀ b off,f=some ⟨b,off,none⟩->b≠B)(i:Nat)(v:Value):CurIs (u.setCell ⟨B,i,none⟩ v) g f n c a:=by
 obtain⟨⟨p,s,y,t⟩,w⟩:=h;refine⟨⟨p,s,y,zB t i v q⟩,fun k l=>?_⟩
 obtain⟨b,off,x,e,j,d,m,o⟩:=w k l;exact⟨b,off,x,e,j,(zA.cellAt ((zA.refl u (fun z=>z=B)).set (a:=⟨B,i,none⟩) rfl v) d (r k l b off e)),m,o⟩
structure zax (w u:World)(d:Nat)(f:Option Addr)(n c a e:Nat)(g h i j:Int)(k:Bool)(l:Int):Prop where
 cur:CurIs u d f n c a
 kept:zA w u (fun b=>b=d)
 lt:w.heap.size<e
 res:u.heap[w.heap.size]?=some (.cells #[int i64 0,int i64 0,int i64 0,int i64 0,.bool false,int i64 0] 41 (0,0))
 box:u.heap[e]?=some (.cells #[int i64 g,int i64 h,int i64 i,int i64 j,.bool k,int i64 l] 41 (0,0))
theorem zax.on {w u g:World}{d n c a i j:Nat}{e:Option Addr}{k l m o:Int}{p:Bool}{q:Int}(h:zax w u d e n c a j k l m o p q)(s:d<w.heap.size)(r:CurIs g d e n c i)(f:zA u g (fun b=>b=d)):zax w g d e n c i j k l m o p q :=
 have h1:=h.lt
 ⟨r,h.kept.trans f,h.lt,f.blk h.res (by omega),f.blk h.box (by omega)⟩
theorem zax.below {w u g:World}{e n c a f:Nat}{d:Option Addr}{i j k l:Int}{m:Bool}{o:Int}(h:zax w u e d n c a f i j k l m o)(b:Below u.heap.size u g):zax w g e d n c a f i j k l m o :=
 ⟨h.cur.below b,h.kept.trans (zA.of_below b),h.lt,zb h.res b,zb h.box b⟩
theorem zax.more {w u:World}{e n c a b f:Nat}{d:Option Addr}{g i j k:Int}{l:Bool}{m:Int}(h:zax w u e d n c a f g i j k l m)(o:a<=b):zax w u e d n c b f g i j k l m :=
 ⟨h.cur.more o,h.kept,h.lt,h.res,h.box⟩
def qO (w:World)(a:Option Addr)(n:Nat):Prop:=∀ k,k<n->∀ b off,a=some ⟨b,off,none⟩->b<w.heap.size
theorem zax.raw {w u:World}{f n c a d:Nat}{g:Option Addr}{q r s t:Int}{x:Bool}{y:Int}(h:zax w u f g n c a d q r s t x y)(l:f<w.heap.size)(hl:qO w g n)(i:Nat)(v:Value) :
  CurIs (u.setCell ⟨d,i,none⟩ v) f g n c a/\zA w (u.setCell ⟨d,i,none⟩ v) (fun b=>b=f)/\(u.setCell ⟨d,i,none⟩ v).heap[w.heap.size]?=some (.cells #[int i64 0,int i64 0,int i64 0,int i64 0,.bool false,int i64 0] 41 (0,0)):=by
 have h1:=h.lt;refine⟨h.cur.box (by omega) (fun k o b off e=>by have:=hl k o b off e;omega) i v,?_,zB h.res i v (by omega)⟩
 exact⟨h.kept.os,h.kept.tape,h.kept.output,by rw[World.size_setCell];exact h.kept.size,fun j m p=>by
  rw[show(u.setCell ⟨d,i,none⟩ v).heap[j]?=u.heap[j]? from by simp[World.setCell,Array.getElem?_modify];intro e;omega]
  exact h.kept.block j m p⟩
theorem zax.set0 {w u:World}{e n c a f:Nat}{d:Option Addr}{m g i j:Int}{k:Bool}{l:Int}(h:zax w u e d n c a f m g i j k l)(b:e<w.heap.size)(hl:qO w d n)(y:Int):zax w (u.setCell ⟨f,0,none⟩ (int i64 y)) e d n c a f y g i j k l :=
 ⟨(h.raw b hl _ _).1,(h.raw b hl _ _).2.1,h.lt,(h.raw b hl _ _).2.2,zt h.box 0 _⟩
theorem zax.set1 {w u:World}{e n c a f:Nat}{d:Option Addr}{g m i j:Int}{k:Bool}{l:Int}(h:zax w u e d n c a f g m i j k l)(b:e<w.heap.size)(hl:qO w d n)(y:Int):zax w (u.setCell ⟨f,1,none⟩ (int i64 y)) e d n c a f g y i j k l :=
 ⟨(h.raw b hl _ _).1,(h.raw b hl _ _).2.1,h.lt,(h.raw b hl _ _).2.2,zt h.box 1 _⟩
theorem zax.set2 {w u:World}{e n c a f:Nat}{d:Option Addr}{g i m j:Int}{k:Bool}{l:Int}(h:zax w u e d n c a f g i m j k l)(b:e<w.heap.size)(hl:qO w d n)(y:Int):zax w (u.setCell ⟨f,2,none⟩ (int i64 y)) e d n c a f g i y j k l :=
 ⟨(h.raw b hl _ _).1,(h.raw b hl _ _).2.1,h.lt,(h.raw b hl _ _).2.2,zt h.box 2 _⟩
theorem zax.set3 {w u:World}{e n c a f:Nat}{d:Option Addr}{g i j m:Int}{k:Bool}{l:Int}(h:zax w u e d n c a f g i j m k l)(b:e<w.heap.size)(hl:qO w d n)(y:Int):zax w (u.setCell ⟨f,3,none⟩ (int i64 y)) e d n c a f g i j y k l :=
 ⟨(h.raw b hl _ _).1,(h.raw b hl _ _).2.1,h.lt,(h.raw b hl _ _).2.2,zt h.box 3 _⟩
theorem zax.set4 {w u:World}{e n c a f:Nat}{d:Option Addr}{g i j k:Int}{m:Bool}{l:Int}(h:zax w u e d n c a f g i j k m l)(b:e<w.heap.size)(hl:qO w d n)(y:Bool):zax w (u.setCell ⟨f,4,none⟩ (.bool y)) e d n c a f g i j k y l :=
 ⟨(h.raw b hl _ _).1,(h.raw b hl _ _).2.1,h.lt,(h.raw b hl _ _).2.2,zt h.box 4 _⟩
theorem zax.set5 {w u:World}{e n c a f:Nat}{d:Option Addr}{g i j k:Int}{l:Bool}{m:Int}(h:zax w u e d n c a f g i j k l m)(b:e<w.heap.size)(hl:qO w d n)(y:Int):zax w (u.setCell ⟨f,5,none⟩ (int i64 y)) e d n c a f g i j k l y :=
 ⟨(h.raw b hl _ _).1,(h.raw b hl _ _).2.1,h.lt,(h.raw b hl _ _).2.2,zt h.box 5 _⟩
theorem ZB {w u:World}{S:Nat->Prop}{b:Nat}(h:zA w u S)(hb:w.heap.size<=b)(i:Nat)(v:Value):zA w (u.setCell ⟨b,i,none⟩ v) S :=
 ⟨h.os,h.tape,h.output,by rw[World.size_setCell];exact h.size,fun j a c=>by
  rw[show(u.setCell ⟨b,i,none⟩ v).heap[j]?=u.heap[j]? from by simp[World.setCell,Array.getElem?_modify];intro e;omega]
  exact h.block j a c⟩
theorem party_end {w u:World}{g n c a t:Nat}{q:Option Addr}{i j l m:Int}{o:Bool}{p:Int}(h:zax w u g q n c a t i j l m o p)(r:g<w.heap.size)(hl:qO w q n) :
  CurIs ((((((u.setCell ⟨w.heap.size,0,none⟩ (int i64 i)).setCell ⟨w.heap.size,1,none⟩ (int i64 j)).setCell ⟨w.heap.size,2,none⟩ (int i64 l)).setCell ⟨w.heap.size,3,none⟩ (int i64 m)).setCell ⟨w.heap.size,4,none⟩ (.bool o)).setCell ⟨w.heap.size,5,none⟩ (int i64 p)) g q n c a /\
  zA w ((((((u.setCell ⟨w.heap.size,0,none⟩ (int i64 i)).setCell ⟨w.heap.size,1,none⟩ (int i64 j)).setCell ⟨w.heap.size,2,none⟩ (int i64 l)).setCell ⟨w.heap.size,3,none⟩ (int i64 m)).setCell ⟨w.heap.size,4,none⟩ (.bool o)).setCell ⟨w.heap.size,5,none⟩ (int i64 p)) (fun b=>b=g) /\
  ((((((u.setCell ⟨w.heap.size,0,none⟩ (int i64 i)).setCell ⟨w.heap.size,1,none⟩ (int i64 j)).setCell ⟨w.heap.size,2,none⟩ (int i64 l)).setCell ⟨w.heap.size,3,none⟩ (int i64 m)).setCell ⟨w.heap.size,4,none⟩ (.bool o)).setCell ⟨w.heap.size,5,none⟩ (int i64 p)).heap[w.heap.size]?=some (.cells #[int i64 i,int i64 j,int i64 l,int i64 m,.bool o,int i64 p] 41 (0,0)):=by
 have d:g≠w.heap.size:=by omega
 have f:∀ k,k<n->∀ b off,q=some ⟨b,off,none⟩->b≠w.heap.size:=fun k s b off e=>by have:=hl k s b off e;omega
 refine⟨(((((h.cur.box d f 0 _).box d f 1 _).box d f 2 _).box d f 3 _).box d f 4 _).box d f 5 _,?_,?_⟩
 ·exact ZB (ZB (ZB (ZB (ZB (ZB h.kept (Nat.le_refl _) _ _) (Nat.le_refl _) _ _) (Nat.le_refl _) _ _) (Nat.le_refl _) _ _) (Nat.le_refl _) _ _) (Nat.le_refl _) _ _
 ·exact zt (zt (zt (zt (zt (zt h.res 0 _) 1 _) 2 _) 3 _) 4 _) 5 _
theorem zeK (m:Nat)(o:Option Addr)(n c a:Nat)(w:World)(ha:a<=700000000000000000)(h:CurIs w m o n c a) :
  Calls Tryz.prog 68 #[.pointer (some ⟨m,0,none⟩)] w fun e w'=>(∃ (x0 x1 x2 x3:Int) (x4:Bool) (x5:Int),e=.returned (.agg #[int i64 x0,int i64 x1,int i64 x2,int i64 x3,.bool x4,int i64 x5]))/\CurIs w' m o n c (a+40)/\zA w w' (fun b=>b=m):=by
 have k:=h.lt;have z:=hI h.code_lt;go_enter Tryz.func68,Tryz.ntmps68;go_wp2_with fail;have hA:CurIs (w.alloc (.cells #[int i64 0,int i64 0,int i64 0,int i64 0,.bool false,int i64 0] 41)) m o n c a:=h.below (zl bZ _);have V:zA w (w.alloc (.cells #[int i64 0,int i64 0,int i64 0,int i64 0,.bool false,int i64 0] 41)) (fun b=>b=m):=zA.of_below (zl bZ _)
 have X:=heap_alloc_new w (.cells #[int i64 0,int i64 0,int i64 0,int i64 0,.bool false,int i64 0] 41);have a1:(w.alloc (.cells #[int i64 0,int i64 0,int i64 0,int i64 0,.bool false,int i64 0] 41)).heap.size=w.heap.size+1:=by simp
 generalize w.alloc (.cells #[int i64 0,int i64 0,int i64 0,int i64 0,.bool false,int i64 0] 41)=wA at hA V X a1 ⊢;refine(pick_any m o n c a 5 _ (by omega) (by omega) (by omega) hA).mono ?_
 rintro e w1 ⟨⟨r,rfl,hr⟩,a0,L⟩;have b5:IntKind.i64.wrap (1+(r:Int))=1+(r:Int):=by rw[IntKind.wrap_i64];omega
 have W:=L.blk X (by omega)
 have b0:=L.size;have O:=V.trans L;clear h hA V X L;go_wp2_with fail;have hP:zax w (w1.alloc (.cells #[int i64 (1+(r:Int)),int i64 0,int i64 0,int i64 0,.bool false,int i64 0] 41)) m o n c (a+2) w1.heap.size (1+(r:Int)) 0 0 0 false 0:=⟨a0.below (zl bZ _),O.trans (zA.of_below (zl bZ _)),by omega,zc W _,heap_alloc_new _ _⟩
 generalize w1.alloc (.cells #[int i64 (1+(r:Int)),int i64 0,int i64 0,int i64 0,.bool false,int i64 0] 41)=u0 at hP ⊢;clear a0 W b0 O a1;generalize w1.heap.size=Y at hP ⊢;generalize (1+(r:Int))=x0 at hP ⊢;clear b5 hr;refine(one_any m o n c (a+2) 2 _ (by omega) (by omega) (by omega) hP.cur).mono ?_
 rintro e u1 ⟨⟨q,rfl⟩,d,i⟩;have A:=hP.on k d i;clear hP d i;go_upto_if 9 with fail;go_cut [] (fun Z=>∃ M N:Int,zax w Z m o n c (a+8) Y x0 M N 0 false 0)
 case first =>
  cases q with
  | false =>
   go_wp2;go_meet;exact⟨0,0,A.more (by omega)⟩
  | true =>
   go_wp2_with fail;refine(pick_any m o n c (a+2+2) 16 _ (by omega) (by omega) (by omega) A.cur).mono ?_
   rintro e u2 ⟨⟨r1,rfl,W⟩,d,i⟩;have G:=A.on k d i;clear A d i;have wa:IntKind.i64.wrap (50*(r1:Int))=50*(r1:Int):=by rw[IntKind.wrap_i64];omega
   have wb:IntKind.i64.wrap (100+50*(r1:Int))=100+50*(r1:Int):=by rw[IntKind.wrap_i64];omega
   have g1:=za G.box 1 _ rfl;have f1:=ze G.box 1;go_wp2_with fail;have H:=G.set1 k z.out (100+50*(r1:Int));clear G;generalize u2.setCell ⟨Y,1,none⟩ (int i64 (100+50*(r1:Int)))=u3 at H ⊢;clear g1 f1 wa wb;refine(pick_any m o n c (a+2+2+2) 5 _ (by omega) (by omega) (by omega) H.cur).mono ?_
   rintro e u4 ⟨⟨r2,rfl,b6⟩,d,i⟩;have S:=H.on k d i;clear H d i;have wa:IntKind.i64.wrap (50*(r2:Int))=50*(r2:Int):=by rw[IntKind.wrap_i64];omega
   have wb:IntKind.i64.wrap (150+50*(r2:Int))=150+50*(r2:Int):=by rw[IntKind.wrap_i64];omega
   have g2:=za S.box 2 _ rfl;have f2:=ze S.box 2;go_wp2;go_meet;exact⟨_,_,(S.set2 k z.out _).more (by omega)⟩
 case rest =>
  obtain⟨M,N,T⟩:=hcut;clear A;go_wp2_with fail;refine(one_any m o n c (a+8) 2 _ (by omega) (by omega) (by omega) T.cur).mono ?_
  rintro e u6 ⟨⟨q2,rfl⟩,d,i⟩;have F:=T.on k d i;clear T d i;go_upto_if 21 with fail;go_cut [] (fun Z=>∃ (P:Int) (Q:Bool) (R:Int),zax w Z m o n c (a+16) Y x0 M N P Q R)
  case first =>
   cases q2 with
   | false =>
    go_wp2;go_meet;exact⟨0,false,0,F.more (by omega)⟩
   | true =>
    go_wp2_with fail;refine(pick_any m o n c (a+8+2) 2 _ (by omega) (by omega) (by omega) F.cur).mono ?_
    rintro e u7 ⟨⟨r3,rfl,b7⟩,d,i⟩;have I:=F.on k d i;clear F d i;have wa:IntKind.i64.wrap (1+(r3:Int))=1+(r3:Int):=by rw[IntKind.wrap_i64];omega
    have g3:=za I.box 3 _ rfl;have f3:=ze I.box 3;go_wp2_with fail;have J:=I.set3 k z.out (1+(r3:Int));clear I;generalize u7.setCell ⟨Y,3,none⟩ (int i64 (1+(r3:Int)))=u8 at J ⊢;clear g3 f3 wa;refine(one_any m o n c (a+8+2+2) 2 _ (by omega) (by omega) (by omega) J.cur).mono ?_
    rintro e u9 ⟨⟨q3,rfl⟩,d,i⟩;have K:=J.on k d i;clear J d i;have g4:=za K.box 4 _ rfl;have f4:=ze K.box 4;have p:=K.set4 k z.out q3;have a9:=za p.box 4 _ rfl
    cases q3 with
    | true =>
     go_wp2;go_meet;exact⟨_,_,_,p.more (by omega)⟩
    | false =>
     go_wp2_with fail;clear K g4 f4 a9;generalize u9.setCell ⟨Y,4,none⟩ (.bool false)=u10 at p ⊢;refine(pick_any m o n c (a+8+2+2+2) 3 _ (by omega) (by omega) (by omega) p.cur).mono ?_
     rintro e u11 ⟨⟨r4,rfl,b8⟩,d,i⟩;have B:=p.on k d i;clear p d i;have wa:IntKind.i64.wrap (1+(r4:Int))=1+(r4:Int):=by rw[IntKind.wrap_i64];omega
     have g5:=za B.box 5 _ rfl;have f5:=ze B.box 5;go_wp2;go_meet;exact⟨_,_,_,(B.set5 k z.out _).more (by omega)⟩
  case rest =>
   obtain⟨P,Q,R,C⟩:=hcut;clear F;go_wp2_with fail;refine(one_any m o n c (a+16) 8 _ (by omega) (by omega) (by omega) C.cur).mono ?_
   rintro e u13 ⟨⟨q4,rfl⟩,d,i⟩;have u:=C.on k d i;clear C d i;go_upto_if 37 with fail;go_cut [] (fun Z=>∃ (y0:Int),zax w Z m o n c (a+20) Y y0 M N P Q R)
   case first =>
    cases q4 with
    | false =>
     go_wp2;go_meet;exact⟨x0,u.more (by omega)⟩
    | true =>
     go_wp2_with fail;refine(pick_any m o n c (a+16+2) 20 _ (by omega) (by omega) (by omega) u.cur).mono ?_
     rintro e u14 ⟨⟨r5,rfl,b9⟩,d,i⟩;have D:=u.on k d i;clear u d i;have wa:IntKind.i64.wrap (1+(r5:Int))=1+(r5:Int):=by rw[IntKind.wrap_i64];omega
     have g0:=za D.box 0 _ rfl;have f0:=ze D.box 0;go_wp2;go_meet;exact⟨_,(D.set0 k z.out _).more (by omega)⟩
   case rest =>
    obtain⟨y0,E⟩:=hcut;clear u;go_wp2_with fail;refine(pick_any m o n c (a+20) 60 _ (by omega) (by omega) (by omega) E.cur).mono ?_
    rintro e u16 ⟨⟨y,rfl,c5⟩,d,i⟩;have l:=E.on k d i;clear E d i;go_upto_block 0 with fail;go_cut [] (fun Z=>∃ (y0 M N P:Int) (Q:Bool) (R:Int),zax w Z m o n c (a+40) Y y0 M N P Q R)
    case first =>
     by_cases c0:y=0
     ·subst c0
      go_wp2_with fail;have s:=l.below (zl bZ (.cells ([0,20,21].map (fun x=>Value.int .i64 x)).toArray 3))
      have t:=l.cur.lt;refine(amongL m o n c (a+20+2) 3 [0,20,21] _ rfl (by omega) (by omega) (by omega) s.cur u16.heap.size (heap_alloc_new u16 _) (by omega)).mono ?_
      rintro e u17 ⟨⟨x,rfl⟩,d,i⟩;have j:=s.on k d i;clear l s t d i;have g:=za j.box 0 _ rfl;have f:=ze j.box 0;go_wp2;go_meet;exact⟨_,_,_,_,_,_,(j.set0 k z.out x).more (by omega)⟩
     ·have d0:((y:Int) == 0)=false:=by simpa using(show ¬ (y:Int)=0 by omega)
      by_cases c1:y=1
      ·subst c1
       go_wp2_with fail;have s:=l.below (zl bZ (.cells ([-1,0,2000,2001].map (fun x=>Value.int .i64 x)).toArray 3))
       have t:=l.cur.lt;refine(amongL m o n c (a+20+2) 4 [-1,0,2000,2001] _ rfl (by omega) (by omega) (by omega) s.cur u16.heap.size (heap_alloc_new u16 _) (by omega)).mono ?_
       rintro e u17 ⟨⟨x,rfl⟩,d,i⟩;have j:=s.on k d i;clear l s t d i;have g:=za j.box 1 _ rfl;have f:=ze j.box 1;go_wp2;go_meet;exact⟨_,_,_,_,_,_,(j.set1 k z.out x).more (by omega)⟩
      ·have d1:((y:Int) == 1)=false:=by simpa using(show ¬ (y:Int)=1 by omega)
       by_cases c2:y=2
       ·subst c2
        go_wp2_with fail;have s:=l.below (zl bZ (.cells ([-1,0,500,501].map (fun x=>Value.int .i64 x)).toArray 3))
        have t:=l.cur.lt;refine(amongL m o n c (a+20+2) 4 [-1,0,500,501] _ rfl (by omega) (by omega) (by omega) s.cur u16.heap.size (heap_alloc_new u16 _) (by omega)).mono ?_
        rintro e u17 ⟨⟨x,rfl⟩,d,i⟩;have j:=s.on k d i;clear l s t d i;have g:=za j.box 2 _ rfl;have f:=ze j.box 2;go_wp2;go_meet;exact⟨_,_,_,_,_,_,(j.set2 k z.out x).more (by omega)⟩
       ·have d2:((y:Int) == 2)=false:=by simpa using(show ¬ (y:Int)=2 by omega)
        by_cases c3:y=3
        ·subst c3
         go_wp2_with fail;have s:=l.below (zl bZ (.cells ([-1,0,3,4].map (fun x=>Value.int .i64 x)).toArray 3))
         have t:=l.cur.lt;refine(amongL m o n c (a+20+2) 4 [-1,0,3,4] _ rfl (by omega) (by omega) (by omega) s.cur u16.heap.size (heap_alloc_new u16 _) (by omega)).mono ?_
         rintro e u17 ⟨⟨x,rfl⟩,d,i⟩;have j:=s.on k d i;clear l s t d i;have g:=za j.box 3 _ rfl;have f:=ze j.box 3;go_wp2;go_meet;exact⟨_,_,_,_,_,_,(j.set3 k z.out x).more (by omega)⟩
        ·have d3:((y:Int) == 3)=false:=by simpa using(show ¬ (y:Int)=3 by omega)
         by_cases c4:y=4
         ·subst c4
          go_wp2_with fail;have s:=l.below (zl bZ (.cells ([-1,0,4,5].map (fun x=>Value.int .i64 x)).toArray 3))
          have t:=l.cur.lt;refine(amongL m o n c (a+20+2) 4 [-1,0,4,5] _ rfl (by omega) (by omega) (by omega) s.cur u16.heap.size (heap_alloc_new u16 _) (by omega)).mono ?_
          rintro e u17 ⟨⟨x,rfl⟩,d,i⟩;have j:=s.on k d i;clear l s t d i;have g:=za j.box 5 _ rfl;have f:=ze j.box 5;go_wp2;go_meet;exact⟨_,_,_,_,_,_,(j.set5 k z.out x).more (by omega)⟩
         ·have d4:((y:Int) == 4)=false:=by simpa using(show ¬ (y:Int)=4 by omega)
          go_wp2;go_meet;exact⟨_,_,_,_,_,_,l.more (by omega)⟩
    case rest =>
     obtain⟨y0,M,N,P,Q,R,hE⟩:=hcut;clear l;obtain⟨k0,k1,k2,k3,k4,k5⟩:=ce6 hE.box;obtain⟨m0,m1,m2,m3,m4,m5⟩:=ce6 hE.res;obtain⟨a2,a3,a5,a6,a7,a8⟩:=fe6 hE.res;have HP:=hI hE;clear hE;go_wp2;clear k0 k1 k2 k3 k4 k5 m0 m1 m2 m3 m4 m5 a2 a3 a5 a6 a7 a8;have HE:=party_end HP.out k z.out;generalize ((((((wc.setCell ⟨w.heap.size,0,none⟩ (int i64 y0)).setCell ⟨w.heap.size,1,none⟩ (int i64 M)).setCell ⟨w.heap.size,2,none⟩ (int i64 N)).setCell ⟨w.heap.size,3,none⟩ (int i64 P)).setCell ⟨w.heap.size,4,none⟩ (.bool Q)).setCell ⟨w.heap.size,5,none⟩ (int i64 R))=U at HE ⊢;obtain⟨z0,z1,z2,z3,z4,z5⟩:=ce6 HE.2.2;exact bodyPost_ret (v:=.agg #[int i64 y0,int i64 M,int i64 N,int i64 P,.bool Q,int i64 R]) (by simp[results,Tryz.results68,go_sem,z0,z1,z2,z3,z4,z5]) rfl ⟨⟨_,_,_,_,_,_,rfl⟩,HE.1,HE.2.1⟩
structure qW where
 who:Int
 ln:Int
 len:Int
 hei:Int
def qp (w:World)(a:Option Addr)(n:Nat)(S:Nat->qW):Prop :=
 ∀ k,k<n->∃ b off,a=some ⟨b,off,none⟩/\w.cell? ⟨b,off+k*4,none⟩=some (int i64 (S k).who)/\w.cell? ⟨b,off+k*4+1,none⟩=some (int i64 (S k).ln)/\w.cell? ⟨b,off+k*4+2,none⟩=some (int i64 (S k).len)/\w.cell? ⟨b,off+k*4+3,none⟩=some (int i64 (S k).hei)
theorem qp.below {w w':World}{d:Option Addr}{n:Nat}{S:Nat->qW}(h:qp w d n S)(c:Below w.heap.size w w'):qp w' d n S:=by
 intro k l;obtain⟨b,off,e,f,g,i,j⟩:=h k l;have a:b<w.heap.size:=World.block_lt_of_cell? w _ f;exact⟨b,off,e,(c.cell a).trans f,(c.cell a).trans g,(c.cell a).trans i,(c.cell a).trans j⟩
theorem qp.upto {w:World}{a:Option Addr}{n i:Nat}{S:Nat->qW}(h:qp w a n S)(hi:i<=n):qp w a i S:=fun k hk=>h k (by omega)
def qZ (S:Nat->qW)(j:Nat):Value :=
 if j % 4=0 then int i64 (S (j / 4)).who else if j % 4=1 then int i64 (S (j / 4)).ln else if j % 4=2 then int i64 (S (j / 4)).len else int i64 (S (j / 4)).hei
theorem zdp (S:Nat->qW)(k:Nat):qZ S (k*4)=int i64 (S k).who:=by
 unfold qZ;rw[if_pos (by omega),show k*4 / 4=k by omega]
theorem zdq (S:Nat->qW)(k:Nat):qZ S (k*4+1)=int i64 (S k).ln:=by
 unfold qZ;rw[if_neg (by omega),if_pos (by omega),show(k*4+1) / 4=k by omega]
theorem zdr (S:Nat->qW)(k:Nat):qZ S (k*4+2)=int i64 (S k).len:=by
 unfold qZ;rw[if_neg (by omega),if_neg (by omega),if_pos (by omega),show(k*4+2) / 4=k by omega]
theorem zds (S:Nat->qW)(k:Nat):qZ S (k*4+3)=int i64 (S k).hei:=by
 unfold qZ;rw[if_neg (by omega),if_neg (by omega),if_neg (by omega),show(k*4+3) / 4=k by omega]
def zN (S:Nat->qW)(n:Nat):List Value:=(List.range (n*4)).map (qZ S)
theorem ZP (S:Nat->qW)(n:Nat):(zN S n).length=n*4:=by simp[zN]
theorem zeL {S:Nat->qW}{n j:Nat}{u:Value}(h:(zN S n)[j]?=some u):j<n*4/\u=qZ S j:=by
 unfold zN at h;rw[List.getElem?_map] at h
 by_cases hj:j<n*4
 ·rw[List.getElem?_range hj] at h;simp at h;exact⟨hj,h.symm⟩
 ·rw[List.getElem?_eq_none (by simpa using hj)] at h;cases h
theorem QI (S:Nat->qW)(n:Nat):∀ u ∈ zN S n,u.oneCell'=true:=by
 intro u a;unfold zN at a;simp only[List.mem_map] at a;obtain⟨j,_,rfl⟩:=a;unfold qZ
 repeat' split
 all_goals rfl
theorem Qt (S:Nat->qW)(k:Nat):zN S (k+1)=zN S k++[int i64 (S k).who,int i64 (S k).ln,int i64 (S k).len,int i64 (S k).hei]:=by
 unfold zN;rw[show(k+1)*4=k*4+1+1+1+1 by omega,List.range_succ,List.range_succ,List.range_succ,List.range_succ]
 simp only[List.map_append,List.map_cons,List.map_nil,List.append_assoc,List.cons_append,List.nil_append,zdp,zdq,zdr,zds]
theorem zdg {S S':Nat->qW}{n:Nat}(h:∀ i,i<n->S i=S' i):zN S n=zN S' n:=by
 unfold zN;refine List.map_congr_left (fun j a=>?_)
 have b:j<n*4:=by simpa using a
 unfold qZ;rw[h (j / 4) (by omega)]
def Qp (S:Nat->qW)(n:Nat)(T:Nat->qW)(i:Nat):qW:=if i<n then S i else T (i - n)
theorem zeM (S T:Nat->qW)(n j:Nat):zN (Qp S n T) (n+j)=zN S n++zN T j:=by
 induction j with
 | zero =>
  have:zN T 0=[]:=by simp[zN]
  rw[this,List.append_nil,Nat.add_zero];exact zdg (fun i a=>if_pos a)
 | succ j ih =>
  rw[show n+(j+1)=n+j+1 by omega,Qt,Qt,ih,List.append_assoc]
  have:Qp S n T (n+j)=T j:=by unfold Qp;rw[if_neg (by omega),show n+j - n=j by omega]
  rw[this]
theorem zad {w:World}{f:Option Addr}{n:Nat}{S:Nat->qW}(h:qp w f n S):∀ c,f=some c->∀ j u,(zN S n)[j]?=some u->w.cell? (c.add j)=some u:=by
 intro c e j u m;obtain⟨hj,rfl⟩:=zeL m;obtain⟨b,off,d,g,i,k,l⟩:=h (j / 4) (by omega)
 rw[e] at d;simp only[Option.some.injEq] at d;subst d;rw[Addr.add_lit];have a:j % 4=0∨j % 4=1∨j % 4=2∨j % 4=3:=by omega
 rcases a with a|a|a|a
 ·rw[show off+j=off+j / 4*4 by omega,g];unfold qZ;simp[a]
 ·rw[show off+j=off+j / 4*4+1 by omega,i];unfold qZ;simp[a]
 ·rw[show off+j=off+j / 4*4+2 by omega,k];unfold qZ;simp[a]
 ·rw[show off+j=off+j / 4*4+3 by omega,l];unfold qZ;simp[a]
theorem QJ {w:World}{base e n c:Nat}{a:Option Addr}{S:Nat->qW}(h:w.ownsRow base e 4 (.slice a n c) n (zN S n)):qp w a n S:=by
 intro k hk;obtain⟨g,rfl,_,_⟩:=own_addr h (by omega)
 have b:=zx h (k*4) (by omega) rfl
 rw[zdp] at b;have d:=zx h (k*4+1) (by omega) rfl
 rw[zdq] at d;have f:=zx h (k*4+2) (by omega) rfl
 rw[zdr] at f;have i:=zx h (k*4+3) (by omega) rfl
 rw[zds] at i;exact⟨g,0,rfl,by rw[Nat.zero_add];exact b,by rw[Nat.zero_add];exact d,by rw[Nat.zero_add];exact f,by rw[Nat.zero_add];exact i⟩
structure qH where
 who:Int
 cab:Int
 many:Int
 all:Bool
def qo (w:World)(a:Option Addr)(n:Nat)(S:Nat->qH):Prop :=
 ∀ k,k<n->∃ b off,a=some ⟨b,off,none⟩/\w.cell? ⟨b,off+k*4,none⟩=some (int i64 (S k).who)/\w.cell? ⟨b,off+k*4+1,none⟩=some (int i64 (S k).cab)/\w.cell? ⟨b,off+k*4+2,none⟩=some (int i64 (S k).many)/\w.cell? ⟨b,off+k*4+3,none⟩=some (.bool (S k).all)
theorem qo.below {w w':World}{d:Option Addr}{n:Nat}{S:Nat->qH}(h:qo w d n S)(c:Below w.heap.size w w'):qo w' d n S:=by
 intro k l;obtain⟨b,off,e,f,g,i,j⟩:=h k l;have a:b<w.heap.size:=World.block_lt_of_cell? w _ f;exact⟨b,off,e,(c.cell a).trans f,(c.cell a).trans g,(c.cell a).trans i,(c.cell a).trans j⟩
theorem qo.upto {w:World}{a:Option Addr}{n i:Nat}{S:Nat->qH}(h:qo w a n S)(hi:i<=n):qo w a i S:=fun k hk=>h k (by omega)
def q8 (S:Nat->qH)(j:Nat):Value :=
 if j % 4=0 then int i64 (S (j / 4)).who else if j % 4=1 then int i64 (S (j / 4)).cab else if j % 4=2 then int i64 (S (j / 4)).many else .bool (S (j / 4)).all
theorem zdt (S:Nat->qH)(k:Nat):q8 S (k*4)=int i64 (S k).who:=by
 unfold q8;rw[if_pos (by omega),show k*4 / 4=k by omega]
theorem zdu (S:Nat->qH)(k:Nat):q8 S (k*4+1)=int i64 (S k).cab:=by
 unfold q8;rw[if_neg (by omega),if_pos (by omega),show(k*4+1) / 4=k by omega]
theorem zdv (S:Nat->qH)(k:Nat):q8 S (k*4+2)=int i64 (S k).many:=by
 unfold q8;rw[if_neg (by omega),if_neg (by omega),if_pos (by omega),show(k*4+2) / 4=k by omega]
theorem zdw (S:Nat->qH)(k:Nat):q8 S (k*4+3)=.bool (S k).all:=by
 unfold q8;rw[if_neg (by omega),if_neg (by omega),if_neg (by omega),show(k*4+3) / 4=k by omega]
def zK (S:Nat->qH)(n:Nat):List Value:=(List.range (n*4)).map (q8 S)
theorem qP (S:Nat->qH)(n:Nat):(zK S n).length=n*4:=by simp[zK]
theorem zeN {S:Nat->qH}{n j:Nat}{u:Value}(h:(zK S n)[j]?=some u):j<n*4/\u=q8 S j:=by
 unfold zK at h;rw[List.getElem?_map] at h
 by_cases hj:j<n*4
 ·rw[List.getElem?_range hj] at h;simp at h;exact⟨hj,h.symm⟩
 ·rw[List.getElem?_eq_none (by simpa using hj)] at h;cases h
theorem Zm (S:Nat->qH)(n:Nat):∀ u ∈ zK S n,u.oneCell'=true:=by
 intro u a;unfold zK at a;simp only[List.mem_map] at a;obtain⟨j,_,rfl⟩:=a;unfold q8
 repeat' split
 all_goals rfl
theorem ZQ (S:Nat->qH)(k:Nat):zK S (k+1)=zK S k++[int i64 (S k).who,int i64 (S k).cab,int i64 (S k).many,.bool (S k).all]:=by
 unfold zK;rw[show(k+1)*4=k*4+1+1+1+1 by omega,List.range_succ,List.range_succ,List.range_succ,List.range_succ]
 simp only[List.map_append,List.map_cons,List.map_nil,List.append_assoc,List.cons_append,List.nil_append,zdt,zdu,zdv,zdw]
theorem zdh {S S':Nat->qH}{n:Nat}(h:∀ i,i<n->S i=S' i):zK S n=zK S' n:=by
 unfold zK;refine List.map_congr_left (fun j a=>?_)
 have b:j<n*4:=by simpa using a
 unfold q8;rw[h (j / 4) (by omega)]
def ZR (S:Nat->qH)(n:Nat)(T:Nat->qH)(i:Nat):qH:=if i<n then S i else T (i - n)
theorem zbX (S T:Nat->qH)(n j:Nat):zK (ZR S n T) (n+j)=zK S n++zK T j:=by
 induction j with
 | zero =>
  have:zK T 0=[]:=by simp[zK]
  rw[this,List.append_nil,Nat.add_zero];exact zdh (fun i a=>if_pos a)
 | succ j ih =>
  rw[show n+(j+1)=n+j+1 by omega,ZQ,ZQ,ih,List.append_assoc]
  have:ZR S n T (n+j)=T j:=by unfold ZR;rw[if_neg (by omega),show n+j - n=j by omega]
  rw[this]
theorem ZF {w:World}{f:Option Addr}{n:Nat}{S:Nat->qH}(h:qo w f n S):∀ c,f=some c->∀ j u,(zK S n)[j]?=some u->w.cell? (c.add j)=some u:=by
 intro c e j u m;obtain⟨hj,rfl⟩:=zeN m;obtain⟨b,off,d,g,i,k,l⟩:=h (j / 4) (by omega)
 rw[e] at d;simp only[Option.some.injEq] at d;subst d;rw[Addr.add_lit];have a:j % 4=0∨j % 4=1∨j % 4=2∨j % 4=3:=by omega
 rcases a with a|a|a|a
 ·rw[show off+j=off+j / 4*4 by omega,g];unfold q8;simp[a]
 ·rw[show off+j=off+j / 4*4+1 by omega,i];unfold q8;simp[a]
 ·rw[show off+j=off+j / 4*4+2 by omega,k];unfold q8;simp[a]
 ·rw[show off+j=off+j / 4*4+3 by omega,l];unfold q8;simp[a]
theorem Zn {w:World}{base e n c:Nat}{a:Option Addr}{S:Nat->qH}(h:w.ownsRow base e 4 (.slice a n c) n (zK S n)):qo w a n S:=by
 intro k hk;obtain⟨g,rfl,_,_⟩:=own_addr h (by omega)
 have b:=zx h (k*4) (by omega) rfl
 rw[zdt] at b;have d:=zx h (k*4+1) (by omega) rfl
 rw[zdu] at d;have f:=zx h (k*4+2) (by omega) rfl
 rw[zdv] at f;have i:=zx h (k*4+3) (by omega) rfl
 rw[zdw] at i;exact⟨g,0,rfl,by rw[Nat.zero_add];exact b,by rw[Nat.zero_add];exact d,by rw[Nat.zero_add];exact f,by rw[Nat.zero_add];exact i⟩
end Go.Proofs.YtgmdnkngnhkgbaaGreat

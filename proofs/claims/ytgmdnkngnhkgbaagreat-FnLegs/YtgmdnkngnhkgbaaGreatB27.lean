import Derived.Test.YtgmdnkngnhkgbaaGreatB23
import Derived.Test.YtgmdnkngnhkgbaaGreatB26
namespace Go.Proofs.YtgmdnkngnhkgbaaGreat
open Go.RowKit
open Go.Value (int)
open Go.IntKind (i64)
set_option maxHeartbeats 64000000
set_option maxRecDepth 1000000
def qm.noStay (x:qm)(r:Nat):qm:={ x with stn:=x.stn - 1,st:=Zi x.st r }
def qm.noRoom (x:qm)(r:Nat):qm:={ x with ron:=x.ron - 1,ro:=ZN x.ro r }
def qm.noSeat (x:qm)(r:Nat):qm:={ x with sen:=x.sen - 1,se:=ZN x.se r }
def qm.addStay (x:qm)(s:qW):qm:={ x with stn:=x.stn+1,st:=Qp x.st x.stn (fun _=>s) }
def qm.addRoom (x:qm)(s:qH):qm:={ x with ron:=x.ron+1,ro:=ZR x.ro x.ron (fun _=>s) }
def qm.addSeat (x:qm)(s:Qo):qm:={ x with sen:=x.sen+1,se:=Qy x.se x.sen (fun _=>s) }
theorem zV.noStay {s:Sail}{x:qm}{r:Nat}(h:zV s x)(hr:r<x.stn):zV s (x.noStay r):=by
 obtain⟨a,b,c⟩:=h;refine⟨?_,b,c⟩
 show DeckS s.la (x.stn - 1) (Zi x.st r)
 have e:x.stn=x.stn - 1+1:=by omega
 rw[e] at a;exact(Zd _ _ _).2 (zfg ((Zd _ _ _).1 a) (by omega))
theorem zV.noRoom {s:Sail}{x:qm}{r:Nat}(h:zV s x)(hr:r<x.ron):zV s (x.noRoom r):=by
 obtain⟨b,a,c⟩:=h;refine⟨b,?_,c⟩
 show qX s.ca (x.ron - 1) (ZN x.ro r)
 have e:x.ron=x.ron - 1+1:=by omega
 rw[e] at a;exact out_rooms a (by omega)
theorem zV.noSeat {s:Sail}{x:qm}{r:Nat}(h:zV s x)(hr:r<x.sen):zV s (x.noSeat r):=by
 obtain⟨b,c,a⟩:=h;refine⟨b,c,?_⟩
 show Z4 s.most (x.sen - 1) (ZN x.se r)
 have e:x.sen=x.sen - 1+1:=by omega
 rw[e] at a;exact out_seats a (by omega)
theorem zV.addStay {s:Sail}{x:qm}{who len hei:Int}{k:Nat}(h:zV s x)(a:Places s.la x.stn x.st who len hei k):zV s (x.addStay ⟨who,(k:Int),len,hei⟩) :=
 ⟨(Zd _ _ _).2 (zgJ a).1,h.2.1,h.2.2⟩
theorem zV.addRoom {s:Sail}{x:qm}{r:qH}(h:zV s x)(c:In r.who 1 9999)(a:¬ Has (Zh x.ro) x.ron r.who)(b:QA s.ca (qk s.ca x.ro x.ron) r):zV s (x.addRoom r) :=
 ⟨h.1,zgL h.2.1 c a b,h.2.2⟩
theorem zaL {S:Nat->Qo}{n j:Nat}{r:Qo}(h:j<n):Qy S n (fun _=>r) j=S j:=by unfold Qy;rw[if_pos h]
theorem zbM {S:Nat->Qo}{n:Nat}{r:Qo}:Qy S n (fun _=>r) n=r:=by unfold Qy;rw[if_neg (Nat.lt_irrefl _)]
theorem zgM {most:Int}{n:Nat}{S:Nat->Qo}{r:Qo}(h:Z4 most n S)(hn:n≠60)(s:In r.who 1 9999)(p:In r.many 1 20)(m:¬ Has (ZG S) n r.who)(q:ZD S n+r.many<=most):Z4 most (n+1) (Qy S n (fun _=>r)):=by
 obtain⟨k,h1,l,h3⟩:=h;have g:∀ i,i<=n->∀ x,Has (ZG (Qy S n (fun _=>r))) i x->Has (ZG S) i x:=by
  rintro i o x ⟨j,f,e⟩;refine⟨j,f,?_⟩;rw[← e];unfold ZG;rw[zaL (by omega)]
 refine⟨k,by omega,fun i o=>?_,?_⟩
 ·by_cases e:i=n
  ·subst e
   rw[zbM];exact⟨s,fun c=>m (g i (Nat.le_refl _) _ c),p⟩
  ·rw[zaL (by omega)]
   obtain⟨a,b,c⟩:=l i (by omega)
   exact⟨a,fun d=>b (g i (by omega) _ d),c⟩
 ·rw[ZD,zdK n (fun j f=>zaL f),zbM]
  exact q
theorem zV.addSeat {s:Sail}{x:qm}{r:Qo}(h:zV s x)(hn:x.sen≠60)(d:In r.who 1 9999)(b:In r.many 1 20)(a:¬ Has (ZG x.se) x.sen r.who)(c:ZD x.se x.sen+r.many<=s.most):zV s (x.addSeat r) :=
 ⟨h.1,h.2.1,zgM h.2.2 hn d b a c⟩
theorem qB (pe len hei cl:Int)(all:Bool)(be legs:Int)(w:World)(y:In pe 0 20)(hl:In legs 0 3) :
  Calls Tryz.prog 129 #[.agg #[int i64 pe,int i64 len,int i64 hei,int i64 cl,.bool all,int i64 be],int i64 legs] w fun e w'=>e=.returned (int i64 (qN ⟨pe,len,hei,cl,all,be⟩ legs))/\Below w.heap.size w w':=by
 obtain⟨V,q⟩:∃ V,V=qN ⟨pe,len,hei,cl,all,be⟩ legs:=⟨_,rfl⟩;rw[← q];obtain⟨b,h⟩:∃ c,c=Z3 len hei:=⟨_,rfl⟩;obtain⟨j,f⟩:∃ c,c=Zx cl all be:=⟨_,rfl⟩;have s:Hid (V=zcy pe legs (legs*(40*pe+b+j))):=by show V=_;rw[q,h,f];rfl
 have b1:0<=b/\b<=500:=by rw[h];exact zdf len hei
 have b2:0<=j/\j<=320:=by rw[f];exact zcj cl all be
 have p:=hI h;have o:=hI f;unfold In at y hl;have z:IntKind.i64.wrap (40*pe)=40*pe:=by rw[IntKind.wrap_i64];omega
 have A:IntKind.i64.wrap (40*pe+b)=40*pe+b:=by rw[IntKind.wrap_i64];omega
 have B:IntKind.i64.wrap (40*pe+b+j)=40*pe+b+j:=by rw[IntKind.wrap_i64];omega
 obtain⟨M,n⟩:∃ M,M=legs*(40*pe+b+j):=⟨_,rfl⟩;have m:0<=M/\M<=10000:=by
  have x:legs=0∨legs=1∨legs=2∨legs=3:=by omega
  rw[n]
  rcases x with rfl|rfl|rfl|rfl <;> omega
 have C:IntKind.i64.wrap (legs*(40*pe+b+j))=M:=by rw[← n,IntKind.wrap_i64];omega
 have d:Hid (V=zcy pe legs M):=by show V=_;rw[s.out,n]
 have u:=hI hl;clear q h f s n;have q1:Int.tdiv M 20=M / 20:=by rw[Int.tdiv_eq_ediv_of_nonneg m.1]
 have q2:Int.tdiv M 10=M / 10:=by rw[Int.tdiv_eq_ediv_of_nonneg m.1]
 have D:IntKind.i64.wrap (M / 20)=M / 20:=by rw[IntKind.wrap_i64];omega
 have E:IntKind.i64.wrap (M - M / 20)=M - M / 20:=by rw[IntKind.wrap_i64];omega
 have F:IntKind.i64.wrap (M / 10)=M / 10:=by rw[IntKind.wrap_i64];omega
 have G:IntKind.i64.wrap (M - M / 10)=M - M / 10:=by rw[IntKind.wrap_i64];omega
 have q3:Int.tdiv (M - M / 20) 10=(M - M / 20) / 10:=by rw[Int.tdiv_eq_ediv_of_nonneg (by omega)]
 have H:IntKind.i64.wrap ((M - M / 20) / 10)=(M - M / 20) / 10:=by rw[IntKind.wrap_i64];omega
 have I:IntKind.i64.wrap (M - M / 20 - (M - M / 20) / 10)=M - M / 20 - (M - M / 20) / 10:=by rw[IntKind.wrap_i64];omega
 go_enter Tryz.func129,Tryz.ntmps129;go_upto_region 1 with fail;have a:Below w.heap.size w (w.alloc (.cells #[int i64 pe,int i64 len,int i64 hei,int i64 cl,.bool all,int i64 be] 41)):=zl bZ _;have i:=heap_alloc_new w (.cells #[int i64 pe,int i64 len,int i64 hei,int i64 cl,.bool all,int i64 be] 41);generalize w.alloc (.cells #[int i64 pe,int i64 len,int i64 hei,int i64 cl,.bool all,int i64 be] 41)=W at a i ⊢;have l:=zQ i;have t:∀ g:zv W,g.val.cell? ⟨w.heap.size,0,none⟩=some (int i64 pe):=fun g=>(g.bel.cell l).trans (za i 0 _ rfl)
 have N:∀ g:zv W,g.val.cell? ⟨w.heap.size,1,none⟩=some (int i64 len):=fun g=>(g.bel.cell l).trans (za i 1 _ rfl)
 have O:∀ g:zv W,g.val.cell? ⟨w.heap.size,2,none⟩=some (int i64 hei):=fun g=>(g.bel.cell l).trans (za i 2 _ rfl)
 have P:∀ g:zv W,g.val.cell? ⟨w.heap.size,3,none⟩=some (int i64 cl):=fun g=>(g.bel.cell l).trans (za i 3 _ rfl)
 have Q:∀ g:zv W,g.val.cell? ⟨w.heap.size,4,none⟩=some (.bool all):=fun g=>(g.bel.cell l).trans (za i 4 _ rfl)
 have R:∀ g:zv W,g.val.cell? ⟨w.heap.size,5,none⟩=some (int i64 be):=fun g=>(g.bel.cell l).trans (za i 5 _ rfl)
 refine zg (by kernel_rfl) (by kernel_rfl) ?_
 repeat(first|go_big_quiet_skip|(go_big_quiet_want;go_big_quiet_op;first|go_big_quiet_on|(apply Exists.intro;refine⟨fun g=>?_,?_⟩;(focus(first|(go_at_call 133;refine zh (v:=int i64 b) ((zgT _ _ _).mono ?_);rintro e J ⟨rfl,rfl⟩;exact⟨by rw[p.out],bZ⟩)|(go_at_call 134;refine zh (v:=int i64 j) ((zen _ _ _ _).mono ?_);rintro e J ⟨rfl,r⟩;exact⟨by rw[o.out],r⟩)));go_big_quiet_on)))
 refine wpQuiet_nil ?_;rintro _ ⟨g,rfl⟩;have y0:=t g;clear t N O P Q R
 by_cases k1:8<=pe
 ·have K:decide (8<=pe)=true:=decide_eq_true k1
  by_cases k2:legs=3
  ·subst k2
   have k:Hid (V=M - M / 20 - (M - M / 20) / 10):=by show V=_;rw[d.out];unfold zcy;rw[if_pos k1,if_pos rfl]
   clear k1;go_wp2;go_ret;exact⟨by rw[k.out];rfl,zf a g.bel⟩
  ·have L:(legs == 3)=false:=by simpa using k2
   have k:Hid (V=M - M / 20):=by show V=_;rw[d.out];unfold zcy;rw[if_pos k1,if_neg k2]
   clear k1 k2;go_wp2;go_ret;exact⟨by rw[k.out];rfl,zf a g.bel⟩
 ·have K:decide (8<=pe)=false:=decide_eq_false k1
  by_cases k2:legs=3
  ·subst k2
   have k:Hid (V=M - M / 10):=by show V=_;rw[d.out];unfold zcy;rw[if_neg k1,if_pos rfl]
   clear k1;go_wp2;go_ret;exact⟨by rw[k.out];rfl,zf a g.bel⟩
  ·have L:(legs == 3)=false:=by simpa using k2
   have k:Hid (V=M):=by show V=_;rw[d.out];unfold zcy;rw[if_neg k1,if_neg k2]
   clear k1 k2;go_wp2;go_ret;exact⟨by rw[k.out];rfl,zf a g.bel⟩
section
open Go.RowKit Classical
def LOk (x:Off)(z:Int):Prop:=ql x/\zH x.sa z x.san<x.san
noncomputable def lOk (x:Off)(z:Int):Bool:=decide (LOk x z)
noncomputable def lN1 (x:Off)(z:Int):Nat:=if LOk x z then (x.sa (zH x.sa z x.san)).la.n else 0
noncomputable def lN2 (x:Off)(z:Int):Nat:=if LOk x z then (x.sa (zH x.sa z x.san)).ca.n else 0
noncomputable def lF1 (x:Off)(z:Int):Nat->Int:=Zy (x.sa (zH x.sa z x.san)).la (x.ld (zH x.sa z x.san)).st (x.ld (zH x.sa z x.san)).stn
noncomputable def lF2 (x:Off)(z:Int):Nat->Int:=qk (x.sa (zH x.sa z x.san)).ca (x.ld (zH x.sa z x.san)).ro (x.ld (zH x.sa z x.san)).ron
noncomputable def lM (x:Off)(z:Int):Int:=if LOk x z then (x.sa (zH x.sa z x.san)).most - ZD (x.ld (zH x.sa z x.san)).se (x.ld (zH x.sa z x.san)).sen else 0
theorem lN1_le {x:Off}(z:Int){B:Nat}(a:Off.Short x B):lN1 x z<=B:=by
 unfold lN1
 by_cases h:LOk x z
 ·rw[if_pos h];exact(a.1.2 _ h.2).2.2.1
 ·rw[if_neg h];exact Nat.zero_le _
theorem lN2_le {x:Off}(z:Int){B:Nat}(a:Off.Short x B):lN2 x z<=B:=by
 unfold lN2
 by_cases h:LOk x z
 ·rw[if_pos h];exact(a.1.2 _ h.2).2.2.2
 ·rw[if_neg h];exact Nat.zero_le _
theorem own_nil (w:World)(base e:Nat)(F:Nat->Int):w.ownsRow base e 1 (.slice none 0 0) 0 (zw F 0):=⟨by simp[zw],.inl ⟨rfl,rfl⟩⟩
def LeftV (x:Off)(z:Int)(base a:Nat)(e:Ending)(w:World):Prop :=
 ∃ v1 v2,e=.returned (.tuple #[v1,v2,int i64 (lM x z),.bool (lOk x z)])/\w.ownsRow base a 1 v1 (lN1 x z) (zw (lF1 x z) (lN1 x z))/\w.ownsRow base a 1 v2 (lN2 x z) (zw (lF2 x z) (lN2 x z))/\∀ b,v1.ownBlock=some b->v2.ownBlock≠some b
noncomputable def zeJ (x:Off)(z:Int):List zbi:=if LOk x z then q9 (x.ld (zH x.sa z x.san)) x.bk z x.bkn else []
theorem manL_le (x:Off)(z:Int):(zeJ x z).length<=30:=by
 unfold zeJ
 by_cases h:LOk x z
 ·rw[if_pos h];exact Nat.le_trans (zgy _ _ _ _) h.1.2.2.1
 ·rw[if_neg h];exact Nat.zero_le _
def ManU (x:Off)(z:Int)(base a:Nat)(e:Ending)(w:World):Prop :=
 ∃ v,e=.returned (.tuple #[v,.bool (lOk x z)])/\w.ownsRow base a 5 v (zeJ x z).length (qC (zbj (zeJ x z)) (zeJ x z).length)
theorem manU_no {x:Off}{z:Int}{base a:Nat}{w:World}(h:¬ (ql x/\zH x.sa z x.san<x.san)):ManU x z base a (.returned (.tuple #[.slice none 0 0,.bool false])) w:=by
 have hl:¬ LOk x z:=h;refine⟨.slice none 0 0,by unfold lOk;simp[hl],?_⟩
 unfold zeJ;rw[if_neg hl];exact⟨by simp[qC],.inl ⟨rfl,rfl⟩⟩
end
section
open Go.RowKit Classical
theorem zfB {l:qm}{S:Nat->qi}{z:Int}{r:zbi}:∀ n,r ∈ q9 l S z n↔∃ j,j<n/\OnZ (S j) z/\r=zck l (S j):=by
 intro n
 induction n with
 | zero=>exact⟨fun h=>(by cases h),fun ⟨j,h,_⟩=>(by omega)⟩
 | succ n ih =>
  by_cases h:OnZ (S n) z
  ·rw[zaE h,List.mem_append,ih]
   constructor
   ·rintro(⟨j,c,a,b⟩|d)
    ·exact⟨j,by omega,a,b⟩
    ·exact⟨n,by omega,h,by simpa using d⟩
   ·rintro⟨j,c,a,b⟩
    by_cases e:j=n
    ·subst e;exact .inr (by simp[b])
    ·exact .inl ⟨j,by omega,a,b⟩
  ·rw[zam h,ih]
   constructor
   ·rintro⟨j,c,a,b⟩;exact⟨j,by omega,a,b⟩
   ·rintro⟨j,c,a,b⟩
    by_cases e:j=n
    ·subst e;exact absurd a h
    ·exact⟨j,by omega,a,b⟩
def onB (G:Nat->Int)(z:Int)(lv:Bool):Nat->Bool
 | 0=>false
 | k+1=>onB G z lv k || (G k == z && lv)
def fndB (F:Nat->zbi)(a:Int):Nat->Bool
 | 0=>false
 | k+1=>fndB F a k || (F k).name == a
theorem onB_iff (G:Nat->Int)(z:Int)(lv:Bool)(k:Nat):onB G z lv k=true↔lv=true/\∃ j,j<k/\G j=z:=by
 induction k with
 | zero=>exact⟨fun h=>(by cases h),fun ⟨_,j,h,_⟩=>(by omega)⟩
 | succ k ih =>
  rw[onB,Bool.or_eq_true,ih,Bool.and_eq_true,beq_iff_eq]
  constructor
  ·rintro(⟨h,j,b,a⟩|⟨b,a⟩)
   ·exact⟨h,j,by omega,a⟩
   ·exact⟨a,k,by omega,b⟩
  ·rintro⟨h,j,b,a⟩
   by_cases e:j=k
   ·subst e;exact .inr ⟨a,h⟩
   ·exact .inl ⟨h,j,by omega,a⟩
theorem fndB_iff (F:Nat->zbi)(b:Int)(k:Nat):fndB F b k=true↔∃ j,j<k/\(F j).name=b:=by
 induction k with
 | zero=>exact⟨fun h=>(by cases h),fun ⟨j,h,_⟩=>(by omega)⟩
 | succ k ih =>
  rw[fndB,Bool.or_eq_true,ih,beq_iff_eq]
  constructor
  ·rintro(⟨j,c,a⟩|h)
   ·exact⟨j,by omega,a⟩
   ·exact⟨k,by omega,h⟩
  ·rintro⟨j,c,a⟩
   by_cases e:j=k
   ·subst e;exact .inr a
   ·exact .inl ⟨j,by omega,a⟩
theorem lOk_at {x:Off}(b:ql x){i:Nat}(hi:i<x.san):LOk x (x.sa i).id:=by
 refine⟨b,?_⟩;have h1:=zay x.sa (x.sa i).id x.san;have a:=zbp x.sa (x.sa i).id x.san
 by_cases c:zH x.sa (x.sa i).id x.san<x.san
 ·exact c
 ·exact absurd rfl (a i (by omega))
theorem zgB {l:List zbi}{r:zbi}:r ∈ l↔∃ j,j<l.length/\zbj l j=r:=by
 constructor
 ·intro h
  obtain⟨j,a,e⟩:=List.getElem_of_mem h;exact⟨j,a,by unfold zbj;simp[List.getD_eq_getElem?_getD,List.getElem?_eq_getElem a,e]⟩
 ·rintro⟨j,a,rfl⟩
  have:zbj l j=l[j]:=by unfold zbj;simp[List.getD_eq_getElem?_getD,List.getElem?_eq_getElem a]
  rw[this];exact List.getElem_mem a
theorem legs_same {x:Off}(l:ql x){i j:Nat}(n:i<x.san)(h:j<x.bkn):onB (x.bk j).lg (x.sa i).id (decide (zaZ (x.bk j))) (x.bk j).lgn=fndB (zbj (zeJ x (x.sa i).id)) (x.bk j).name (zeJ x (x.sa i).id).length:=by
 have hl:=lOk_at l n;have g:=l.2.2.2.2.1;rw[Bool.eq_iff_iff,onB_iff,fndB_iff,decide_eq_true_eq];have d:zeJ x (x.sa i).id=q9 (x.ld (zH x.sa (x.sa i).id x.san)) x.bk (x.sa i).id x.bkn:=by unfold zeJ;rw[if_pos hl]
 constructor
 ·rintro⟨a,k,b,c⟩
  have:zck (x.ld (zH x.sa (x.sa i).id x.san)) (x.bk j) ∈ zeJ x (x.sa i).id:=by rw[d,zfB];exact⟨j,h,⟨a,k,b,c⟩,rfl⟩
  obtain⟨q,f,e⟩:=zgB.1 this;exact⟨q,f,by rw[e];rfl⟩
 ·rintro⟨q,f,e⟩
  have:zbj (zeJ x (x.sa i).id) q ∈ zeJ x (x.sa i).id:=zgB.2 ⟨q,f,rfl⟩;rw[d,zfB,← d] at this;obtain⟨k,o,⟨a,b⟩,c⟩:=this;rw[c] at e;have m:(x.bk k).name=(x.bk j).name:=e;rw[(g k o).1,(g j h).1] at m;obtain rfl:k=j:=by omega
  exact⟨a,b⟩
theorem left_ok {x:Off}{z:Int}(h:LOk x z):0<=lM x z/\(∀ k,k<lN1 x z->0<=lF1 x z k)/\∀ k,k<lN2 x z->0<=lF2 x z k:=by
 have g:=h.1.2.2.2.1 _ h.2;unfold lM lN1 lN2;rw[if_pos h,if_pos h,if_pos h];exact⟨by have:=g.2.2.2.2.2;omega,fun k a=>g.1.2.2.2 k a,fun k a=>g.2.1.2.2.2 k a⟩
theorem lOk_yes {x:Off}{z:Int}(h:LOk x z):lOk x z=true:=by unfold lOk;simp[h]
end
theorem Zc (x:Int)(w:World) :
  Calls Tryz.prog 70 #[int i64 x] w fun e w'=>e=.returned (.bool (decide (In x 1 99)))/\w'=w:=by
 go_enter Tryz.func70,Tryz.ntmps70;go_wp2_with (first|(go_at_call 74;refine(zM _ _ _ _).mono ?_;rintro e w' ⟨rfl,rfl⟩))
 go_ret;exact⟨rfl,rfl⟩
theorem qM (a b:ByteArray)(w:World)(i:a.size<=1000000000000000)(k:b.size<=1000000000000000) :
  Calls Tryz.prog 71 #[.string a,.string b] w fun e w'=>e=.returned (.bool (decide (zar a b)))/\w'=w:=by
 obtain⟨c,j⟩:∃ c,c=decide (zar a b):=⟨_,rfl⟩;rw[← j];have g:=hI j;clear j
 by_cases n1:qr a
 ·have d1:decide (qr a)=true:=decide_eq_true n1
  by_cases n2:qr b
  ·have d2:decide (qr b)=true:=decide_eq_true n2
   by_cases n3:a=b
   ·subst n3
    have l:(a.toList == a.toList)=true:=zbl.2 rfl;have f:Hid (¬ zar a a):=fun h=>h.2.2 rfl
    clear n1 n2;go_enter Tryz.func71,Tryz.ntmps71;go_wp2_with (first|(go_at_call 80;refine sC (Za _ _ i) ?_))
    go_ret;exact⟨by rw[g.out,decide_eq_false f.out];rfl,rfl⟩
   ·have l:(a.toList == b.toList)=false:=zcp.2 n3
    have f:Hid (zar a b):=⟨n1,n2,n3⟩;clear n1 n2 n3;go_enter Tryz.func71,Tryz.ntmps71;go_wp2_with fail;refine(Za _ _ i).mono ?_;rintro e w' ⟨rfl,d⟩;have d:=d.symm;subst d;go_wp2_with fail;refine(Za _ _ k).mono ?_;rintro e w' ⟨rfl,d⟩;have d:=d.symm;subst d;go_wp2;go_ret;exact⟨by rw[g.out,decide_eq_true f.out];rfl,rfl⟩
  ·have d2:decide (qr b)=false:=decide_eq_false n2
   have f:Hid (¬ zar a b):=fun h=>n2 h.2.1
   clear n1 n2;go_enter Tryz.func71,Tryz.ntmps71;go_wp2_with fail;refine(Za _ _ i).mono ?_;rintro e w' ⟨rfl,d⟩;have d:=d.symm;subst d;go_wp2_with fail;refine(Za _ _ k).mono ?_;rintro e w' ⟨rfl,d⟩;have d:=d.symm;subst d;go_wp2;go_ret;exact⟨by rw[g.out,decide_eq_false f.out];rfl,rfl⟩
 ·have d1:decide (qr a)=false:=decide_eq_false n1
  have f:Hid (¬ zar a b):=fun h=>n1 h.1
  clear n1;go_enter Tryz.func71,Tryz.ntmps71;go_wp2_with fail;refine(Za _ _ i).mono ?_;rintro e w' ⟨rfl,d⟩;have d:=d.symm;subst d;go_wp2;go_ret;exact⟨by rw[g.out,decide_eq_false f.out];rfl,rfl⟩
section
open Go.RowKit
end
theorem Z0 (pe len hei cl:Int)(all:Bool)(be:Int)(w:World) :
  Calls Tryz.prog 82 #[.agg #[int i64 pe,int i64 len,int i64 hei,int i64 cl,.bool all,int i64 be]] w fun e w'=>SaysIf (qw ⟨pe,len,hei,cl,all,be⟩) e/\Below w.heap.size w w':=by
 obtain⟨A,l⟩:∃ c,c=decide (In pe 1 20):=⟨_,rfl⟩;obtain⟨B,m⟩:∃ c,c=decide (¬ (len=0/\hei=0)):=⟨_,rfl⟩;obtain⟨C,n⟩:∃ c,c=decide (In len 1 2000/\In hei 1 500):=⟨_,rfl⟩;obtain⟨v,o⟩:∃ c,c=decide (¬ (cl=0/\all=false/\be=0)):=⟨_,rfl⟩;obtain⟨x,p⟩:∃ c,c=decide (zdU cl all be):=⟨_,rfl⟩;have F:=hI l;have G:=hI m;have H:=hI n;have D:=hI o;have E:=hI p;have f:Hid (qw ⟨pe,len,hei,cl,all,be⟩↔A=true/\(B=false∨C=true)/\(v=false∨x=true)):=by
  show qw ⟨pe,len,hei,cl,all,be⟩↔A=true/\(B=false∨C=true)/\(v=false∨x=true)
  rw[l,m,n,o,p];unfold qw zav;simp only[decide_eq_true_eq,decide_eq_false_iff_not,Classical.not_not]
 clear l m n o p;go_enter Tryz.func82,Tryz.ntmps82;go_wp2_with fail;have i:Below w.heap.size w (w.alloc (.cells #[int i64 pe,int i64 len,int i64 hei,int i64 cl,.bool all,int i64 be] 41)):=zl bZ _;have u:=heap_alloc_new w (.cells #[int i64 pe,int i64 len,int i64 hei,int i64 cl,.bool all,int i64 be] 41);generalize w.alloc (.cells #[int i64 pe,int i64 len,int i64 hei,int i64 cl,.bool all,int i64 be] 41)=W at i u ⊢;obtain⟨t,y,z,q,r,s⟩:=ce6 u;refine(zM _ _ _ _).mono ?_;rw[← F.out];rintro e w' ⟨rfl,a⟩;have a:=a.symm;subst a
 cases A with
 | false =>
  have j:Hid (¬ qw ⟨pe,len,hei,cl,all,be⟩):=fun h=>by have:=(f.out.1 h).1;cases this
  clear f;go_wp2;go_ret;exact⟨zk j.out,i⟩
 | true =>
  go_wp2_with fail;refine(zbf pe len hei cl all be _).mono ?_;rw[← G.out];rintro e w1 ⟨rfl,k⟩;have b1:=zb u k;have g:=zf i k;clear t y z q r s i u k;have y:=za b1 1 _ rfl;have z:=za b1 2 _ rfl
  cases B with
  | false =>
   have t:=za b1 0 _ rfl;have q:=za b1 3 _ rfl;have r:=za b1 4 _ rfl;have s:=za b1 5 _ rfl;go_wp2_with fail;refine(ZZ pe len hei cl all be _).mono ?_;rw[← D.out];rintro e I ⟨rfl,d⟩;have b2:=zb b1 d;have b:=zf g d;clear t y z q r s g b1 d;have q:=za b2 3 _ rfl;have r:=za b2 4 _ rfl;have s:=za b2 5 _ rfl
   cases v with
   | false =>
    go_wp2;go_ret;exact⟨zI (f.out.2 (by simp)),b⟩
   | true =>
    go_wp2_with fail;refine(wish_is _ _ _ _).mono ?_;rw[← E.out];rintro e w' ⟨rfl,a⟩;have a:=a.symm;subst a
    cases x with
    | true =>
     go_wp2;go_ret;exact⟨zI (f.out.2 (by simp)),b⟩
    | false =>
     have j:Hid (¬ qw ⟨pe,len,hei,cl,all,be⟩):=fun h=>by have h:=f.out.1 h;simp at h
     clear f;go_wp2;go_ret;exact⟨zk j.out,b⟩
  | true =>
   go_wp2_with fail;refine(zaN _ _ _).mono ?_;rw[← H.out];rintro e w' ⟨rfl,a⟩;have a:=a.symm;subst a
   cases C with
   | false =>
    have j:Hid (¬ qw ⟨pe,len,hei,cl,all,be⟩):=fun h=>by have h:=f.out.1 h;simp at h
    clear f;go_wp2;go_ret;exact⟨zk j.out,g⟩
   | true =>
    have t:=za b1 0 _ rfl;have q:=za b1 3 _ rfl;have r:=za b1 4 _ rfl;have s:=za b1 5 _ rfl;go_wp2_with fail;refine(ZZ pe len hei cl all be _).mono ?_;rw[← D.out];rintro e I ⟨rfl,d⟩;have b2:=zb b1 d;have b:=zf g d;clear t y z q r s g b1 d;have q:=za b2 3 _ rfl;have r:=za b2 4 _ rfl;have s:=za b2 5 _ rfl
    cases v with
    | false =>
     go_wp2;go_ret;exact⟨zI (f.out.2 (by simp)),b⟩
    | true =>
     go_wp2_with fail;refine(wish_is _ _ _ _).mono ?_;rw[← E.out];rintro e w' ⟨rfl,a⟩;have a:=a.symm;subst a
     cases x with
     | true =>
      go_wp2;go_ret;exact⟨zI (f.out.2 (by simp)),b⟩
     | false =>
      have j:Hid (¬ qw ⟨pe,len,hei,cl,all,be⟩):=fun h=>by have h:=f.out.1 h;simp at h
      clear f;go_wp2;go_ret;exact⟨zk j.out,b⟩
theorem zcZ (c d f g x:Int)(a:Nat)(w:World)(i:w.cell? ⟨a,0,none⟩=some (int i64 x)) :
  Calls Tryz.prog 90 #[.agg #[int i64 c,int i64 d,int i64 f,int i64 g],.pointer (some ⟨a,0,none⟩)] w fun e w'=>e=.returned (.bool (c == x))/\Below w.heap.size w w':=by
 have b:=World.block_lt_of_cell? w _ i;have h:¬ a=w.heap.size:=by have:a<w.heap.size:=b;omega
 go_enter Tryz.func90,Tryz.ntmps90;go_wp2;go_ret;exact⟨rfl,zl bZ _⟩
theorem zez (t:Option Addr)(n c:Nat)(S:Nat->qW)(x:Int)(g:Nat)(w:World)(hn:n<=1048576)(C:qp w t n S)(r:w.cell? ⟨g,0,none⟩=some (int i64 x)) :
  Calls Tryz.prog 89 #[.slice t n c,.func (.func 90) #[] #[.pointer (some ⟨g,0,none⟩)]] w fun e w'=>e=.returned (int i64 (qL (Zb S) x n))/\Below w.heap.size w w':=by
 have q:=World.block_lt_of_cell? w _ r;go_enter Tryz.func89,Tryz.ntmps89;go_wp2;go_loopw [5,8] (fun _ i wr=>∃ k:Nat,k<=n/\i=int i64 k/\(∀ j,j<k->Zb S j≠x)/\Below w.heap.size w wr) (fun _ i _=>n - (intOf i).toNat)
 case atStart=>exact⟨0,Nat.zero_le _,rfl,fun j B=>by omega,bZ⟩
 case round =>
  obtain⟨k,hk,rfl,d,a⟩:=hrel;have l:=hI d;clear d
  by_cases hlt2:k<n
  ·obtain⟨b,off,rfl,o,u,v,y⟩:=C k hlt2
   have h:=World.block_lt_of_cell? w _ o;have c0:=(a.cell (p:=⟨b,off+k*4,none⟩) h).trans o;have c1:=(a.cell (p:=⟨b,off+k*4+1,none⟩) h).trans u;have c2:=(a.cell (p:=⟨b,off+k*4+2,none⟩) h).trans v;have c3:=(a.cell (p:=⟨b,off+k*4+3,none⟩) h).trans y;have s:Hid (wr.cell? ⟨g,0,none⟩=some (int i64 x)):=(a.cell (p:=⟨g,0,none⟩) q).trans r;clear o u v y r
   by_cases he:Zb S k=x
   ·have A:((S k).who == x)=true:=by unfold Zb at he;simpa using he
    have m:Hid (qL (Zb S) x n=k):=by
     have:ZC (Zb S) x n=k:=zbJ hlt2 he l.out;unfold qL Hid;rw[this,if_pos hlt2]
    clear he;go_wp2_with (first|(go_at_call 90;refine(zcZ _ _ _ _ x g _ s.out).mono ?_;rintro e D ⟨rfl,f⟩))
    go_ret;exact⟨by rw[m.out];rfl,zf a f⟩
   ·have A:((S k).who == x)=false:=by unfold Zb at he;simpa using he
    have z:=hI he;clear he;go_wp2_with (first|(go_at_call 90;refine(zcZ _ _ _ _ x g _ s.out).mono ?_;rintro e D ⟨rfl,f⟩))
    go_roundw
    case rel=>exact⟨k+1,by omega,by go_num,fun j B=>by
     by_cases e:j=k
     ·subst e;exact z.out
     ·exact l.out j (by omega),zf a f⟩
    case measure=>simp[intOf];omega
  ·obtain rfl:k=n:=by omega
   have m:=hI (QL (zaB l.out));go_wp2;go_ret;exact⟨by rw[m.out];rfl,a⟩
/-- stayOf: where the stay of the by stands, -1 Zi one. -/
theorem Q8 (b:Option Addr)(n c:Nat)(S:Nat->qW)(x:Int)(w:World)(hn:n<=1048576)(j:qp w b n S) :
  Calls Tryz.prog 56 #[.slice b n c,int i64 x] w fun e w'=>e=.returned (int i64 (qL (Zb S) x n))/\Below w.heap.size w w':=by
 have a:Below w.heap.size w (w.alloc (.cells #[int i64 x] 3)):=zl bZ _;have h:=hI (j.below a);have g:Hid ((w.alloc (.cells #[int i64 x] 3)).cell? ⟨w.heap.size,0,none⟩=some (int i64 x)):=za (heap_alloc_new w _) 0 _ rfl;have i:∀ (f:Fn) (first cap:Array Value) (w:World),(Instr.makeFunc f first cap).run Tryz.prog w=.ok (.func f first cap) w:=fun _ _ _ _=>rfl
 go_enter Tryz.func56,Tryz.ntmps56;go_wp2_with (first|(go_at_call 89;refine(zez b n c S x _ _ hn h.out g.out).mono ?_;rintro e w2 ⟨rfl,d⟩))
 go_ret;exact⟨rfl,zf a d⟩
def OnB (b:qi)(z:Int):Prop:=zaZ b/\HasLeg b z
theorem on1_any (b:qi)(a:Option Addr)(c:Nat)(z:Int)(p:Nat)(w:World)(hl:b.lgn<=1048576)(v:zX w a b.lgn b.lg)(n:w.cell? ⟨p,0,none⟩=some (int i64 z)) :
  Calls Tryz.prog 39 #[.agg #[int i64 b.name,int i64 b.who,.string b.own,.slice a b.lgn c,int i64 b.pe,int i64 b.len,int i64 b.hei,int i64 b.cl,.bool b.all,int i64 b.be,int i64 b.state,int i64 b.unt,int i64 b.price],.pointer (some ⟨p,0,none⟩)] w fun e w'=>SaysIf (OnB b z) e/\Below w.heap.size w w':=by
 have m:p<w.heap.size:=World.block_lt_of_cell? w _ n;have j:=hI v;clear v;have f:Below w.heap.size w (w.alloc (.cells #[int i64 b.name,int i64 b.who,.string b.own,.slice a b.lgn c,int i64 b.pe,int i64 b.len,int i64 b.hei,int i64 b.cl,.bool b.all,int i64 b.be,int i64 b.state,int i64 b.unt,int i64 b.price] 43)):=zl bZ _;have l:=heap_alloc_new w (.cells #[int i64 b.name,int i64 b.who,.string b.own,.slice a b.lgn c,int i64 b.pe,int i64 b.len,int i64 b.hei,int i64 b.cl,.bool b.all,int i64 b.be,int i64 b.state,int i64 b.unt,int i64 b.price] 43);go_enter Tryz.func39,Tryz.ntmps39;go_wp2_with fail;generalize w.alloc (.cells #[int i64 b.name,int i64 b.who,.string b.own,.slice a b.lgn c,int i64 b.pe,int i64 b.len,int i64 b.hei,int i64 b.cl,.bool b.all,int i64 b.be,int i64 b.state,int i64 b.unt,int i64 b.price] 43)=W at f l ⊢;refine(zhd b a c _).mono ?_;rintro e w1 ⟨⟨t,rfl,r⟩,g⟩;have k:=hI r;have b1:=zb l g;have d:=zf f g;have p1:=(d.cell m).trans n;clear r l f g n
 cases t with
 | false =>
  have i:Hid (¬ OnB b z):=fun h=>by have:=k.out.2 h.1;cases this
  go_wp2;go_ret;exact⟨zk i.out,d⟩
 | true =>
  have x:Hid (zaZ b):=k.out.1 rfl;have y3:=za b1 3 _ rfl;clear k;go_wp2_with fail;refine(zhc a b.lgn c b.lg z _ hl (j.out.below d)).mono ?_;rintro e w2 ⟨⟨u,rfl,s⟩,o⟩;have o:=o.symm;subst o;have q:=hI s;clear s
  cases u with
  | false =>
   have i:Hid (¬ OnB b z):=fun h=>by have:=q.out.2 h.2;cases this
   go_wp2;go_ret;exact⟨zk i.out,d⟩
  | true =>
   have i:Hid (OnB b z):=⟨x.out,q.out.1 rfl⟩;go_wp2;go_ret;exact⟨zI i.out,d⟩
noncomputable def zdc (C:Nat->List Value)(P:Nat->Prop)(n:Nat):List Value:=(List.range ((onL P n).length*13)).map (recCell 13 (fun j=>C (onI P n j)))
theorem zgm (a:Nat)(C:Nat->List Value)(m:Nat)(v:List Value)(hv:v.length=a)(c:C m=v):(List.range ((m+1)*a)).map (recCell a C)=(List.range (m*a)).map (recCell a C)++v:=by
 apply List.ext_getElem?
 intro i;rw[List.getElem?_append,List.length_map,List.length_range]
 by_cases h1:i<m*a
 ·rw[if_pos h1,List.getElem?_map,List.getElem?_map,List.getElem?_range h1,List.getElem?_range (by rw[Nat.add_mul];omega)]
 ·rw[if_neg h1]
  by_cases h2:i<(m+1)*a
  ·have b:i - m*a<a:=by rw[Nat.add_mul] at h2;omega
   rw[List.getElem?_map,List.getElem?_range h2,Option.map_some];rw[show i=m*a+(i - m*a) by omega,zz a C m _ b,c,show m*a+(i - m*a) - m*a=i - m*a by omega,List.getD_eq_getElem?_getD,List.getElem?_eq_getElem (by omega)]
   rfl
  ·rw[List.getElem?_eq_none (by simp;omega),List.getElem?_eq_none (by rw[Nat.add_mul] at h2;omega)]
theorem onRow_yes {C:Nat->List Value}{P:Nat->Prop}{n:Nat}(h:P n)(c:(C n).length=13):zdc C P (n+1)=zdc C P n++C n:=by
 unfold zdc;rw[show(onL P (n+1)).length=(onL P n).length+1 by rw[QR h];simp]
 rw[zgm 13 _ _ (C n) c (by rw[zaM P h])]
 congr 1
 refine List.map_congr_left fun j a=>?_
 have b:j<(onL P n).length*13:=by simpa using a
 unfold recCell;dsimp only;rw[zap P (show j / 13<(onL P n).length by omega)]
theorem onRow_no {C:Nat->List Value}{P:Nat->Prop}{n:Nat}(h:¬ P n):zdc C P (n+1)=zdc C P n:=by
 unfold zdc;rw[zcg h];refine List.map_congr_left fun j a=>?_
 have b:j<(onL P n).length*13:=by simpa using a
 unfold recCell;dsimp only;rw[zap P (show j / 13<(onL P n).length by omega)]
theorem onL_le (P:Nat->Prop)(n:Nat):(onL P n).length<=n:=by rw[zex];exact zdB P n
theorem RecsAt.of_own {w:World}{base t a n c:Nat}{d:Option Addr}{C:Nat->List Value}(h:w.ownsRow base t a (.slice d n c) n ((List.range (n*a)).map (recCell a C))):RecsAt w d n a C:=by
 intro k i;obtain⟨g,rfl,_,_⟩:=own_addr h (by omega)
 refine⟨g,0,rfl,fun j f=>?_⟩
 have b:k*a+j<n*a:=by
  have e:(k+1)*a<=n*a:=Nat.mul_le_mul_right a i;rw[Nat.add_mul] at e
  omega
 rw[Nat.zero_add,zx h _ b rfl,zz a C k j f]
def OnAns (w':World)(base:Nat)(n:Nat)(S:Nat->qi)(C:Nat->List Value)(z:Int)(e:Ending):Prop :=
 ∃ ao c,e=.returned (.slice ao (onL (fun i=>OnB (S i) z) n).length c)/\(onL (fun i=>OnB (S i) z) n).length<=c/\w'.ownsRow base 43 13 (.slice ao (onL (fun i=>OnB (S i) z) n).length c) (onL (fun i=>OnB (S i) z) n).length (zdc C (fun i=>OnB (S i) z) n)
theorem zeC (ao:Option Addr)(n c:Nat)(S:Nat->qi)(C:Nat->List Value)(z:Int)(pa:Nat)(w:World)(hn:n<=1048576)(hs:QU n S 1048576)(hC:RecsAt w ao n 13 C)(M:∀ k,k<n->qi.Is w (C k) (S k))(hp:w.cell? ⟨pa,0,none⟩=some (int i64 z)) :
  Calls Tryz.prog 38 #[.slice ao n c,.func (.func 39) #[] #[.pointer (some ⟨pa,0,none⟩)]] w fun e w'=>OnAns w' w.heap.size n S C z e/\Below w.heap.size w w':=by
 obtain⟨j0,ji,a9,b0,b5⟩:=info_parts Tryz.infoBooking;have a6:=World.block_lt_of_cell? w _ hp;have HC:=hI hC;have HI:=hI M;have HS:=hI hs;have HP:=hI hp;clear hC M hs hp;obtain⟨P,hP⟩:∃ P:Nat->Prop,P=fun i=>OnB (S i) z:=⟨_,rfl⟩
 have Y:Hid (∀ i,P i↔OnB (S i) z):=fun i=>by rw[hP]
 unfold OnAns;rw[← hP];clear hP;go_enter Tryz.func38,Tryz.ntmps38;go_wp2;go_loopw [5,7,10] (fun v _ i wr=>∃ k:Nat,k<=n/\i=int i64 k/\wr.ownsRow w.heap.size 43 13 v (onL P k).length (zdc C P k)/\Below w.heap.size w wr) (fun _ _ i _=>n - (intOf i).toNat)
 case atStart=>exact⟨0,Nat.zero_le _,rfl,World.ownsRow_nil _ _ _ _,bZ⟩
 case round =>
  obtain⟨k,hk,rfl,ho,a⟩:=hrel;have L:=hI ho;clear ho
  by_cases hlt2:k<n
  ·obtain⟨f,g,rfl,q⟩:=HC.out k hlt2
   have y:=(HI.out k hlt2).length;obtain⟨l,m,o,J,_⟩:=HI.out k hlt2;obtain⟨b,T⟩:∃ b,b=S k:=⟨_,rfl⟩;rw[← T] at o J;have HB:=hI T;have U:=hI J;have K:=hI y;have a8:b.lgn<=1048576:=by rw[T];exact(HS.out k hlt2).2
   have d:f<w.heap.size:=World.block_lt_of_cell? w _ (q 0 (by decide))
   have c0:wr.cell? ⟨f,g+k*13,none⟩=some (int i64 b.name):=(a.cell (p:=⟨f,g+k*13,none⟩) d).trans (by have:=q 0 (by decide);rw[o] at this;exact this)
   have c1:wr.cell? ⟨f,g+k*13+1,none⟩=some (int i64 b.who):=(a.cell (p:=⟨f,g+k*13+1,none⟩) d).trans (by have:=q 1 (by decide);rw[o] at this;exact this)
   have c2:wr.cell? ⟨f,g+k*13+2,none⟩=some (.string b.own):=(a.cell (p:=⟨f,g+k*13+2,none⟩) d).trans (by have:=q 2 (by decide);rw[o] at this;exact this)
   have c3:wr.cell? ⟨f,g+k*13+3,none⟩=some (.slice l b.lgn m):=(a.cell (p:=⟨f,g+k*13+3,none⟩) d).trans (by have:=q 3 (by decide);rw[o] at this;exact this)
   have c4:wr.cell? ⟨f,g+k*13+4,none⟩=some (int i64 b.pe):=(a.cell (p:=⟨f,g+k*13+4,none⟩) d).trans (by have:=q 4 (by decide);rw[o] at this;exact this)
   have c5:wr.cell? ⟨f,g+k*13+5,none⟩=some (int i64 b.len):=(a.cell (p:=⟨f,g+k*13+5,none⟩) d).trans (by have:=q 5 (by decide);rw[o] at this;exact this)
   have c6:wr.cell? ⟨f,g+k*13+6,none⟩=some (int i64 b.hei):=(a.cell (p:=⟨f,g+k*13+6,none⟩) d).trans (by have:=q 6 (by decide);rw[o] at this;exact this)
   have c7:wr.cell? ⟨f,g+k*13+7,none⟩=some (int i64 b.cl):=(a.cell (p:=⟨f,g+k*13+7,none⟩) d).trans (by have:=q 7 (by decide);rw[o] at this;exact this)
   have c8:wr.cell? ⟨f,g+k*13+8,none⟩=some (.bool b.all):=(a.cell (p:=⟨f,g+k*13+8,none⟩) d).trans (by have:=q 8 (by decide);rw[o] at this;exact this)
   have c9:wr.cell? ⟨f,g+k*13+9,none⟩=some (int i64 b.be):=(a.cell (p:=⟨f,g+k*13+9,none⟩) d).trans (by have:=q 9 (by decide);rw[o] at this;exact this)
   have a0:wr.cell? ⟨f,g+k*13+10,none⟩=some (int i64 b.state):=(a.cell (p:=⟨f,g+k*13+10,none⟩) d).trans (by have:=q 10 (by decide);rw[o] at this;exact this)
   have a1:wr.cell? ⟨f,g+k*13+11,none⟩=some (int i64 b.unt):=(a.cell (p:=⟨f,g+k*13+11,none⟩) d).trans (by have:=q 11 (by decide);rw[o] at this;exact this)
   have a2:wr.cell? ⟨f,g+k*13+12,none⟩=some (int i64 b.price):=(a.cell (p:=⟨f,g+k*13+12,none⟩) d).trans (by have:=q 12 (by decide);rw[o] at this;exact this)
   have HE:=hI o;clear q o T J y;have D:=zl a (.cells #[int i64 b.name,int i64 b.who,.string b.own,.slice l b.lgn m,int i64 b.pe,int i64 b.len,int i64 b.hei,int i64 b.cl,.bool b.all,int i64 b.be,int i64 b.state,int i64 b.unt,int i64 b.price] 43);have r:=heap_alloc_new wr (.cells #[int i64 b.name,int i64 b.who,.string b.own,.slice l b.lgn m,int i64 b.pe,int i64 b.len,int i64 b.hei,int i64 b.cl,.bool b.all,int i64 b.be,int i64 b.state,int i64 b.unt,int i64 b.price] 43);have G:Hid ((wr.alloc (.cells #[int i64 b.name,int i64 b.who,.string b.own,.slice l b.lgn m,int i64 b.pe,int i64 b.len,int i64 b.hei,int i64 b.cl,.bool b.all,int i64 b.be,int i64 b.state,int i64 b.unt,int i64 b.price] 43)).ownsRow w.heap.size 43 13 u5 (onL P k).length (zdc C P k)):=zp (zl (Below.refl _ wr) _) L.out;clear L;go_wp2_with fail;generalize hBx:wr.heap.size=Bx at r ⊢;generalize wr.alloc (.cells #[int i64 b.name,int i64 b.who,.string b.own,.slice l b.lgn m,int i64 b.pe,int i64 b.len,int i64 b.hei,int i64 b.cl,.bool b.all,int i64 b.be,int i64 b.state,int i64 b.unt,int i64 b.price] 43)=W at D r G ⊢;clear hBx c0 c1 c2 c3 c4 c5 c6 c7 c8 c9 a0 a1 a2 a;refine(on1_any b l m z pa _ a8 (U.out.below D) ((D.cell a6).trans HP.out)).mono ?_;rintro e Q ⟨⟨t,rfl,ht⟩,E⟩;have I:=zb r E;have A:=zf D E;have R:Hid (t=true↔P k):=by show t=true↔P k;rw[Y.out k,← HB.out];exact ht
   have s:=hI (zp E G.out);clear ht D r E G
   cases t with
   | true =>
    have x:Hid (P k):=R.out.1 rfl;clear R;obtain⟨y0,y1,y2,y3,y4,y5,y6,y7,y8,y9,b7,b8,b9⟩:=ce13 I;have N:=heap_alloc_new Q (.cells #[int i64 b.name,int i64 b.who,.string b.own,.slice l b.lgn m,int i64 b.pe,int i64 b.len,int i64 b.hei,int i64 b.cl,.bool b.all,int i64 b.be,int i64 b.state,int i64 b.unt,int i64 b.price] 43);have V:Hid (∀ j u,(C k)[j]?=some u->(Q.alloc (.cells #[int i64 b.name,int i64 b.who,.string b.own,.slice l b.lgn m,int i64 b.pe,int i64 b.len,int i64 b.hei,int i64 b.cl,.bool b.all,int i64 b.be,int i64 b.state,int i64 b.unt,int i64 b.price] 43)).cell? ((⟨Q.heap.size,0,none⟩:Addr).add j)=some u):=by
     rw[HE.out];exact World.news_of_block N
    have H:=zl (Below.refl _ Q) (.cells #[int i64 b.name,int i64 b.who,.string b.own,.slice l b.lgn m,int i64 b.pe,int i64 b.len,int i64 b.hei,int i64 b.cl,.bool b.all,int i64 b.be,int i64 b.state,int i64 b.unt,int i64 b.price] 43);have X:Hid _:=zp H s.out;have B:=zf A H;have O:=B.size;have b6:=onL_le P k;have H1:Hid (∀ u ∈ C k,u.oneCell'=true):=by rw[HE.out];intro u hu;simp at hu;rcases hu with rfl|rfl|rfl|rfl|rfl|rfl|rfl|rfl|rfl|rfl|rfl|rfl|rfl <;> rfl
    clear N H;go_wp2_with (first|(at_builtin;refine zu _ (by rfl) (.tmp 17) (.tmp 19) 25 (by rfl) w.heap.size 43 j0 (.agg #[int i64 0,int i64 0,.string ⟨#[]⟩,.slice none 0 0,int i64 0,int i64 0,int i64 0,int i64 0,.bool false,int i64 0,int i64 0,int i64 0,int i64 0]) 13 128 Tryz.underlying25 ji a9 b0 b5 rfl (by decide) _ (onL P k).length _ (by rfl) X.out (some ⟨Q.heap.size,0,none⟩) 1 1 (C k) (by rfl) (fun h=>(by cases h)) (by rw[K.out]) (fun ad e=>by cases e;exact V.out) H1.out (by unfold maxLen;omega) (by omega) O ?_;intro v' w4 a7 a5))
    go_roundw
    case rel =>
     refine⟨k+1,by omega,by go_num,?_,B.grown a5 O (fun j hj=>(s.out.lt j hj).1)⟩
     rw[onRow_yes x.out K.out,show(onL P (k+1)).length=(onL P k).length+1 by rw[QR x.out];simp]
     exact a7
    case measure=>simp[intOf];omega
   | false =>
    have x:Hid (¬ P k):=fun h=>by have:=R.out.2 h;cases this
    clear R;go_wp2;go_roundw
    case rel =>
     refine⟨k+1,by omega,by go_num,?_,A⟩
     rw[onRow_no x.out,show(onL P (k+1)).length=(onL P k).length by rw[zcg x.out]]
     exact s.out
    case measure=>simp[intOf];omega
  ·obtain rfl:k=n:=by omega
   obtain⟨Z,c',e',a3,_⟩:=zr L.out;have F:=L.out;rw[e'] at F;have s:Hid _:=F;subst e';clear L F;go_wp2;go_ret;exact⟨⟨Z,c',rfl,a3,s.out⟩,a⟩
theorem zaU (d:Option Addr)(n c:Nat)(S:Nat->qi)(C:Nat->List Value)(z:Int)(w:World)(hn:n<=1048576)(m:QU n S 1048576)(l:RecsAt w d n 13 C)(b:∀ k,k<n->qi.Is w (C k) (S k)) :
  Calls Tryz.prog 14 #[.slice d n c,int i64 z] w fun e w'=>OnAns w' w.heap.size n S C z e/\Below w.heap.size w w':=by
 have a:Below w.heap.size w (w.alloc (.cells #[int i64 z] 3)):=zl bZ _;have o:=hI (l.below a);have p:Hid (∀ k,k<n->qi.Is (w.alloc (.cells #[int i64 z] 3)) (C k) (S k)):=fun k t=>(b k t).below a
 have q:Hid ((w.alloc (.cells #[int i64 z] 3)).cell? ⟨w.heap.size,0,none⟩=some (int i64 z)):=za (heap_alloc_new w _) 0 _ rfl;have u:∀ (j:Fn) (first cap:Array Value) (w:World),(Instr.makeFunc j first cap).run Tryz.prog w=.ok (.func j first cap) w:=fun _ _ _ _=>rfl
 have r:=hI m;clear l b m;go_enter Tryz.func14,Tryz.ntmps14;go_wp2_with (first|(go_at_call 38;refine(zeC d n c S C z _ _ hn r.out o.out p.out q.out).mono ?_;rintro e w2 ⟨⟨f,s,rfl,h,i⟩,g⟩))
 go_ret;exact⟨⟨f,s,rfl,h,zC i a.size⟩,zf a g⟩
theorem zdR (C:Option Addr)(n c:Nat)(p:zP)(F:Nat->Int)(x l s h:Int)(w:World)(hl:p.n=n)(hn:n<=4)(M:zT w C p) :
  Calls Tryz.prog 104 #[.slice C n c,.agg #[int i64 (F 0),int i64 (F 1),int i64 (F 2),int i64 (F 3)],.agg #[int i64 x,int i64 l,int i64 s,int i64 h]] w fun e w'=>SaysIf (Fits p F ⟨x,l,s,h⟩) e/\Below w.heap.size w w':=by
 have A:=hI hl;clear hl;go_enter Tryz.func104,Tryz.ntmps104;go_upto_region 1 with fail;have f:((w.alloc (.cells #[int i64 (F 0),int i64 (F 1),int i64 (F 2),int i64 (F 3)] 127)).alloc (.cells #[int i64 x,int i64 l,int i64 s,int i64 h] 84)).heap[w.heap.size]?=some (.cells #[int i64 (F 0),int i64 (F 1),int i64 (F 2),int i64 (F 3)] 127 (0,0)):=zc (heap_alloc_new w _) _;have b1:((w.alloc (.cells #[int i64 (F 0),int i64 (F 1),int i64 (F 2),int i64 (F 3)] 127)).alloc (.cells #[int i64 x,int i64 l,int i64 s,int i64 h] 84)).heap[w.heap.size+1]?=some (.cells #[int i64 x,int i64 l,int i64 s,int i64 h] 84 (0,0)):=by simpa using heap_alloc_new (w.alloc _) _
 have a:Below w.heap.size w ((w.alloc (.cells #[int i64 (F 0),int i64 (F 1),int i64 (F 2),int i64 (F 3)] 127)).alloc (.cells #[int i64 x,int i64 l,int i64 s,int i64 h] 84)):=zl (zl bZ _) _;generalize (w.alloc (.cells #[int i64 (F 0),int i64 (F 1),int i64 (F 2),int i64 (F 3)] 127)).alloc (.cells #[int i64 x,int i64 l,int i64 s,int i64 h] 84)=W at f b1 a ⊢;have H:=zQ f;have o:=zQ b1;have z0:∀ g:zv W,g.val.cell? ⟨w.heap.size+1,0,none⟩=some (int i64 x):=fun g=>(g.bel.cell o).trans (za b1 0 _ rfl)
 have z1:∀ g:zv W,g.val.cell? ⟨w.heap.size+1,1,none⟩=some (int i64 l):=fun g=>(g.bel.cell o).trans (za b1 1 _ rfl)
 have z2:∀ g:zv W,g.val.cell? ⟨w.heap.size+1,2,none⟩=some (int i64 s):=fun g=>(g.bel.cell o).trans (za b1 2 _ rfl)
 have z3:∀ g:zv W,g.val.cell? ⟨w.heap.size+1,3,none⟩=some (int i64 h):=fun g=>(g.bel.cell o).trans (za b1 3 _ rfl)
 have y:Hid (∀ m,m<4->∀ g:zv W,g.val.cell? ⟨w.heap.size,m,none⟩=some (int i64 (F m))):=by
  intro m G g;refine(g.bel.cell H).trans ?_;have:m=0∨m=1∨m=2∨m=3:=by omega
  rcases this with rfl|rfl|rfl|rfl
  ·exact za f 0 _ rfl
  ·exact za f 1 _ rfl
  ·exact za f 2 _ rfl
  ·exact za f 3 _ rfl
 clear f b1 H o;have L:IntKind.i64.wrap ((n:Int) - 1)=(n:Int) - 1:=by rw[IntKind.wrap_i64];omega
 by_cases h1:In x 1 9999
 ·have i:decide (In x 1 9999)=true:=decide_eq_true h1
  have r:=hI h1;clear h1
  by_cases h2:In s 1 2000/\In h 1 500
  ·have j:decide (In s 1 2000/\In h 1 500)=true:=decide_eq_true h2
   have q:=hI h2;clear h2
   by_cases h3:In l 0 ((n:Int) - 1)
   ·have k:decide (In l 0 ((n:Int) - 1))=true:=decide_eq_true h3
    have t:=hI h3;obtain⟨m,rfl⟩:∃ m:Nat,l=m:=⟨l.toNat,by unfold In at h3;omega⟩
    have G:m<n:=by unfold In at h3;omega
    clear h3;obtain⟨b,off,rfl,D,E⟩:=M m (by rw[A.out];exact G)
    have K:=World.block_lt_of_cell? w _ D;have y2:∀ g:zv W,g.val.cell? ⟨b,off+m*2+1,none⟩=some (int i64 (p.B m)):=fun g=>((zf a g.bel).cell (p:=⟨b,off+m*2+1,none⟩) K).trans E
    have y3:∀ g:zv W,g.val.cell? ⟨w.heap.size,m,none⟩=some (int i64 (F m)):=y.out m (by omega)
    have i1:(0:Int)<=(m:Int):=by omega
    have i2:(m:Int)<(n:Int):=by omega
    have i3:(m:Int)<4:=by omega
    have i4:m<4:=by omega
    clear D E
    by_cases h4:h<=p.B m
    ·have I:decide (h<=p.B m)=true:=decide_eq_true h4
     have u:=hI h4;clear h4
     by_cases h5:s<=F m
     ·have J:decide (s<=F m)=true:=decide_eq_true h5
      have z:=hI h5;clear h5;refine zg (by kernel_rfl) (by kernel_rfl) ?_
      repeat(first|go_big_quiet_skip|(go_big_quiet_want;go_big_quiet_op;first|go_big_quiet_on|(apply Exists.intro;refine⟨fun g=>?_,?_⟩;(focus(first|(go_at_call 77;refine zh (v:=.bool true) ((ZJ _ _).mono ?_);rintro e d ⟨rfl,rfl⟩;exact⟨by rw[i],bZ⟩)|(go_at_call 110;refine zh (v:=.bool true) ((zaN _ _ _).mono ?_);rintro e d ⟨rfl,rfl⟩;exact⟨by rw[j],bZ⟩)|(go_at_call 74;refine zh (v:=.bool true) ((zM _ _ _ _).mono ?_);rintro e d ⟨rfl,rfl⟩;exact⟨by rw[k],bZ⟩)));go_big_quiet_on)))
      refine wpQuiet_nil ?_;rintro _ ⟨g,rfl⟩;go_wp2;go_ret;exact⟨zI ⟨r.out,q.out.1,q.out.2,by rw[A.out];exact t.out,u.out,z.out⟩,zf a g.bel⟩
     ·have J:decide (s<=F m)=false:=decide_eq_false h5
      have z:=hI h5;clear h5;refine zg (by kernel_rfl) (by kernel_rfl) ?_
      repeat(first|go_big_quiet_skip|(go_big_quiet_want;go_big_quiet_op;first|go_big_quiet_on|(apply Exists.intro;refine⟨fun g=>?_,?_⟩;(focus(first|(go_at_call 77;refine zh (v:=.bool true) ((ZJ _ _).mono ?_);rintro e d ⟨rfl,rfl⟩;exact⟨by rw[i],bZ⟩)|(go_at_call 110;refine zh (v:=.bool true) ((zaN _ _ _).mono ?_);rintro e d ⟨rfl,rfl⟩;exact⟨by rw[j],bZ⟩)|(go_at_call 74;refine zh (v:=.bool true) ((zM _ _ _ _).mono ?_);rintro e d ⟨rfl,rfl⟩;exact⟨by rw[k],bZ⟩)));go_big_quiet_on)))
      refine wpQuiet_nil ?_;rintro _ ⟨g,rfl⟩;go_wp2;go_ret;exact⟨zk (fun B=>Int.not_le.2 z.out B.room),zf a g.bel⟩
    ·have I:decide (h<=p.B m)=false:=decide_eq_false h4
     have u:=hI h4;clear h4;refine zg (by kernel_rfl) (by kernel_rfl) ?_
     repeat(first|go_big_quiet_skip|(go_big_quiet_want;go_big_quiet_op;first|go_big_quiet_on|(apply Exists.intro;refine⟨fun g=>?_,?_⟩;(focus(first|(go_at_call 77;refine zh (v:=.bool true) ((ZJ _ _).mono ?_);rintro e d ⟨rfl,rfl⟩;exact⟨by rw[i],bZ⟩)|(go_at_call 110;refine zh (v:=.bool true) ((zaN _ _ _).mono ?_);rintro e d ⟨rfl,rfl⟩;exact⟨by rw[j],bZ⟩)|(go_at_call 74;refine zh (v:=.bool true) ((zM _ _ _ _).mono ?_);rintro e d ⟨rfl,rfl⟩;exact⟨by rw[k],bZ⟩)));go_big_quiet_on)))
     refine wpQuiet_nil ?_;rintro _ ⟨g,rfl⟩;go_wp2;go_ret;exact⟨zk (fun B=>Int.not_le.2 u.out B.high),zf a g.bel⟩
   ·have k:decide (In l 0 ((n:Int) - 1))=false:=decide_eq_false h3
    have t:=hI h3;clear h3;refine zg (by kernel_rfl) (by kernel_rfl) ?_
    repeat(first|go_big_quiet_skip|(go_big_quiet_want;go_big_quiet_op;first|go_big_quiet_on|(apply Exists.intro;refine⟨fun g=>?_,?_⟩;(focus(first|(go_at_call 77;refine zh (v:=.bool true) ((ZJ _ _).mono ?_);rintro e d ⟨rfl,rfl⟩;exact⟨by rw[i],bZ⟩)|(go_at_call 110;refine zh (v:=.bool true) ((zaN _ _ _).mono ?_);rintro e d ⟨rfl,rfl⟩;exact⟨by rw[j],bZ⟩)|(go_at_call 74;refine zh (v:=.bool false) ((zM _ _ _ _).mono ?_);rintro e d ⟨rfl,rfl⟩;exact⟨by rw[k],bZ⟩)));go_big_quiet_on)))
    refine wpQuiet_nil ?_;rintro _ ⟨g,rfl⟩;go_wp2;go_ret;exact⟨zk (fun h=>t.out (by have:=h.ln;rw[A.out] at this;exact this)),zf a g.bel⟩
  ·have j:decide (In s 1 2000/\In h 1 500)=false:=decide_eq_false h2
   have q:=hI h2;clear h2;refine zg (by kernel_rfl) (by kernel_rfl) ?_
   repeat(first|go_big_quiet_skip|(go_big_quiet_want;go_big_quiet_op;first|go_big_quiet_on|(apply Exists.intro;refine⟨fun g=>?_,?_⟩;(focus(first|(go_at_call 77;refine zh (v:=.bool true) ((ZJ _ _).mono ?_);rintro e d ⟨rfl,rfl⟩;exact⟨by rw[i],bZ⟩)|(go_at_call 110;refine zh (v:=.bool false) ((zaN _ _ _).mono ?_);rintro e d ⟨rfl,rfl⟩;exact⟨by rw[j],bZ⟩)));go_big_quiet_on)))
   refine wpQuiet_nil ?_;rintro _ ⟨g,rfl⟩;go_wp2;go_ret;exact⟨zk (fun h=>q.out ⟨h.len,h.hei⟩),zf a g.bel⟩
 ·have i:decide (In x 1 9999)=false:=decide_eq_false h1
  have r:=hI h1;clear h1;refine zg (by kernel_rfl) (by kernel_rfl) ?_
  repeat(first|go_big_quiet_skip|(go_big_quiet_want;go_big_quiet_op;first|go_big_quiet_on|(apply Exists.intro;refine⟨fun g=>?_,?_⟩;(focus(first|(go_at_call 77;refine zh (v:=.bool false) ((ZJ _ _).mono ?_);rintro e d ⟨rfl,rfl⟩;exact⟨by rw[i],bZ⟩)));go_big_quiet_on)))
  refine wpQuiet_nil ?_;rintro _ ⟨g,rfl⟩;go_wp2;go_ret;exact⟨zk (fun h=>r.out h.who),zf a g.bel⟩
end Go.Proofs.YtgmdnkngnhkgbaaGreat

/-
  OWN TEXT: SpecTx2, SpecTx3, ListS, ImplS1, ImplLane.
-/
import Derived.Test.YtfallpinmhbemaaGreatDoorB35
namespace Go.Proofs.YtfallpinmhbemaaGreatDoor
open Go.RowKit
open Go.Value (int)
open Go.IntKind (i64)
set_option maxHeartbeats 64000000
set_option maxRecDepth 100000
theorem zgp (w:World):Calls Tryz.prog 46 #[] w fun e w'=>∃ g,e=.returned (.slice (some ⟨g,0,none⟩) 10 10)/\Hid (∀ k,k<10->w'.cell? ⟨g,k,none⟩=some (.string (zP k)))/\Below w.heap.size w w':=by
 have b:Below w.heap.size w (w.alloc (.cells #[.string ⟨#[]⟩,.string ⟨#[113,117,111,116,101]⟩,.string ⟨#[104,111,108,100]⟩,.string ⟨#[98,111,111,107]⟩,.string ⟨#[99,111,110,102,105,114,109]⟩,.string ⟨#[97,109,101,110,100]⟩,.string ⟨#[99,97,110,99,101,108]⟩,.string ⟨#[116,114,97,110,115,102,101,114]⟩,.string ⟨#[101,120,112,105,114,101]⟩,.string ⟨#[109,97,110,105,102,101,115,116]⟩] 9)):=zr bZ _;have hn:=heap_alloc_new w (.cells #[.string ⟨#[]⟩,.string ⟨#[113,117,111,116,101]⟩,.string ⟨#[104,111,108,100]⟩,.string ⟨#[98,111,111,107]⟩,.string ⟨#[99,111,110,102,105,114,109]⟩,.string ⟨#[97,109,101,110,100]⟩,.string ⟨#[99,97,110,99,101,108]⟩,.string ⟨#[116,114,97,110,115,102,101,114]⟩,.string ⟨#[101,120,112,105,114,101]⟩,.string ⟨#[109,97,110,105,102,101,115,116]⟩] 9);have a:Hid (∀ k,k<10->(w.alloc (.cells #[.string ⟨#[]⟩,.string ⟨#[113,117,111,116,101]⟩,.string ⟨#[104,111,108,100]⟩,.string ⟨#[98,111,111,107]⟩,.string ⟨#[99,111,110,102,105,114,109]⟩,.string ⟨#[97,109,101,110,100]⟩,.string ⟨#[99,97,110,99,101,108]⟩,.string ⟨#[116,114,97,110,115,102,101,114]⟩,.string ⟨#[101,120,112,105,114,101]⟩,.string ⟨#[109,97,110,105,102,101,115,116]⟩] 9)).cell? ⟨w.heap.size,k,none⟩=some (.string (zP k))):=fun k hk=>by
  have c:k=0∨k=1∨k=2∨k=3∨k=4∨k=5∨k=6∨k=7∨k=8∨k=9:=by omega
  rcases c with rfl|rfl|rfl|rfl|rfl|rfl|rfl|rfl|rfl|rfl
  ·exact za hn 0 _ rfl
  ·exact za hn 1 _ rfl
  ·exact za hn 2 _ rfl
  ·exact za hn 3 _ rfl
  ·exact za hn 4 _ rfl
  ·exact za hn 5 _ rfl
  ·exact za hn 6 _ rfl
  ·exact za hn 7 _ rfl
  ·exact za hn 8 _ rfl
  ·exact za hn 9 _ rfl
 clear hn;go_enter Tryz.func46,Tryz.ntmps46;go_wp2;go_ret;exact⟨_,rfl,a,b⟩
structure XSt (w a:World)(b:Array Value)(T:ByteArray)(m:Nat):Prop where
 o:a.heap[w.heap.size]?=some (.cells b 27 (0,0))
 bel:Below w.heap.size w a
 sz:T.size<=2000*m
theorem XSt.more {w c:World}{a:Array Value}{T:ByteArray}{m b:Nat}(h:XSt w c a T m)(hm:m<=b):XSt w c a T b:=⟨h.o,h.bel,by have:=h.sz;omega⟩
theorem flagN {x:OpD}{k:Nat}(h:qn x)(hk:x.kind.toNat=k):decide (In x.kind 4 8)=qM k:=by
 have:=h.1.1;unfold In at this;rw[Bool.eq_iff_iff,decide_eq_true_eq];unfold qM In;rw[decide_eq_true_eq]
 omega
theorem flagO {x:OpD}{k:Nat}(h:qn x)(hk:x.kind.toNat=k):(x.own.toList == [])=!(qr k):=by
 have d:=h.1.1;have a:=h.1.2.1;unfold In at d;unfold qO at a;unfold qr
 by_cases c:x.kind=2∨x.kind=3∨x.kind=7
 ·rw[if_pos c] at a
  rw[decide_eq_true (by omega:k=2∨k=3∨k=7)]
  have b:=a.1;rw[show(!true)=false from rfl,beq_eq_false_iff_ne];intro e;have:x.own=⟨#[]⟩:=QU (by rw[e];simp[ByteArray.toList_eq])
  rw[this] at b;exact absurd b (by decide)
 ·rw[if_neg c] at a
  rw[decide_eq_false (by omega:¬ (k=2∨k=3∨k=7))]
  have:x.own=⟨#[]⟩:=by
   apply ByteArray.ext
   exact Array.eq_empty_of_size_eq_zero a
  rw[this];simp[ByteArray.toList_eq]
theorem flagL {x:OpD}{k:Nat}(h:qn x)(hk:x.kind.toNat=k):decide (0<x.lgn)=decide (0<qx k):=by
 have b:=h.1.1;have a:=h.1.2.2.2.1;unfold In at b;unfold qj at a;unfold qx;rw[Bool.eq_iff_iff,decide_eq_true_eq,decide_eq_true_eq]
 by_cases c:zR x.kind
 ·rw[if_pos c] at a
  unfold zR at c;rw[if_pos (by omega)]
  omega
 ·rw[if_neg c] at a
  unfold zR at c;rw[if_neg (by omega)]
  by_cases d:x.kind=9
  ·rw[if_pos d] at a
   rw[if_pos (by omega)]
   omega
  ·rw[if_neg d] at a
   rw[if_neg (by omega)]
   omega
theorem flagP {x:OpD}{k:Nat}(h:qn x)(a:x.kind.toNat=k):decide (zR x.kind)=qp k:=by
 rw[Bool.eq_iff_iff,decide_eq_true_eq];exact(zcw h a).symm
theorem flagU {x:OpD}{k:Nat}(h:qn x)(hk:x.kind.toNat=k):(x.kind == 2)=qs k:=by
 have a:=h.1.1;unfold In at a;unfold qs;rw[Bool.eq_iff_iff,decide_eq_true_eq,beq_iff_eq]
 omega
theorem flagW {x:OpD}{k:Nat}(h:qn x)(hk:x.kind.toNat=k):((x.kind == 6) || (x.kind == 8))=Qg k:=by
 have a:=h.1.1;unfold In at a;unfold Qg;rw[Bool.eq_iff_iff,decide_eq_true_eq,Bool.or_eq_true,beq_iff_eq,beq_iff_eq]
 omega
theorem l11Op_any (x:OpD)(c:Option Addr)(f:Nat)(w:World)(hx:qn x)(a6:IntsAt w c x.lgn x.lg) :
  Calls Tryz.prog 20 #[.agg #[int i64 x.kind,.string x.own,int i64 x.name,.slice c x.lgn f,int i64 x.pe,int i64 x.len,int i64 x.hei,int i64 x.cl,.bool x.all,int i64 x.be,int i64 x.unt,int i64 x.now]] w fun e w'=>e=.returned (.string (opT x))/\Below w.heap.size w w':=by
 have s:=hI hx;have a7:=hI a6;obtain⟨k,hk⟩:∃ k:Nat,x.kind=(k:Int):=⟨x.kind.toNat,by have:=hx.1.1.1;omega⟩
 have a:Hid (x.kind.toNat=k):=by show x.kind.toNat=k;omega
 have a2:=hI hk;have b7:1<=k/\k<=9:=by have:=hx.1.1;unfold In at this;omega
 have S:Below w.heap.size w (w.alloc (.cells #[int i64 x.kind,.string x.own,int i64 x.name,.slice c x.lgn f,int i64 x.pe,int i64 x.len,int i64 x.hei,int i64 x.cl,.bool x.all,int i64 x.be,int i64 x.unt,int i64 x.now] 27)):=zr bZ _;have b0:=heap_alloc_new w (.cells #[int i64 x.kind,.string x.own,int i64 x.name,.slice c x.lgn f,int i64 x.pe,int i64 x.len,int i64 x.hei,int i64 x.cl,.bool x.all,int i64 x.be,int i64 x.unt,int i64 x.now] 27);clear hx a6 hk;go_enter Tryz.func20,Tryz.ntmps20;go_upto_region 1 with fail;generalize w.alloc (.cells #[int i64 x.kind,.string x.own,int i64 x.name,.slice c x.lgn f,int i64 x.pe,int i64 x.len,int i64 x.hei,int i64 x.cl,.bool x.all,int i64 x.be,int i64 x.unt,int i64 x.now] 27)=W at S b0 ⊢;have C:W.cell? ⟨w.heap.size,0,none⟩=some (int i64 (k:Int)):=by rw[← a2.out];exact za b0 0 _ rfl
 have b5:(0:Int)<=(k:Int):=by omega
 have b6:(k:Int)<10:=by omega
 go_cut [3] (fun v u=>v=.string (zP k)/\Hid (Below W.heap.size W u))
 case first =>
  go_region_with (first
   | (go_at_call 46;refine(zgp _).mono ?_;rintro e w2 ⟨g,rfl,HW,a5⟩;have b:Below W.heap.size W w2:=(by first | exact a5 | exact zj bZ.drew a5);have y2:w2.cell? ⟨w.heap.size,0,none⟩=some (int i64 (k:Int)):=(by rw[← a2.out];exact za (zc b0 b) 0 _ rfl);have z2:=HW.out k (by omega)))
  all_goals
   go_wp2;go_meet;exact⟨rfl,b⟩
 case rest =>
 obtain⟨rfl,HW⟩:=hcut;have l:Hid (XSt w wc #[int i64 x.kind,.string x.own,int i64 x.name,.slice c x.lgn f,int i64 x.pe,int i64 x.len,int i64 x.hei,int i64 x.cl,.bool x.all,int i64 x.be,int i64 x.unt,int i64 x.now] (qD spT (zcJ x)) 1):=⟨zc b0 HW.out,zj S HW.out,by unfold zcJ;rw[ZH];have:=zet x.kind.toNat;omega⟩
 have e0:zP k=qD spT (zcJ x):=by unfold zcJ;rw[ZH,a.out]
 rw[e0];clear e0 C b5 b6 b0 S HW;clear W;obtain⟨T0,R⟩:∃ T,T=qD spT (zcJ x):=⟨_,rfl⟩;have K:=hI R;rw[← R] at l ⊢;clear R;obtain⟨q1,U⟩:∃ q,q=qM k:=⟨_,rfl⟩;have H:=hI U.symm;obtain⟨B,i⟩:∃ z,z=wc:=⟨_,rfl⟩;subst i;have C:=za l.out.o 0 _ rfl;go_wp2_with fail;have Q:=zS x.kind B;rw[flagN s.out a.out,← U] at Q;clear U;refine Q.mono ?_;clear Q;rintro e w1 ⟨rfl,t⟩;have t:=t.symm;subst t;clear C;go_upto_if 11 with fail;go_cut [3] (fun v u=>∃ T,v=.string T/\Hid (T=qD spT (zbV x)/\XSt w u #[int i64 x.kind,.string x.own,int i64 x.name,.slice c x.lgn f,int i64 x.pe,int i64 x.len,int i64 x.hei,int i64 x.cl,.bool x.all,int i64 x.be,int i64 x.unt,int i64 x.now] T 2))
 case first =>
  cases q1 with
  | false =>
   go_wp2;go_meet;exact⟨_,rfl,by rw[K.out];unfold zbV;exact(zat (by rw[a.out];exact H.out)).symm,l.out.more (by omega)⟩
  | true =>
   have y:Hid (T0++(⟨#[32]⟩++(qf x.name))=qD spT (zbV x)):=by
    show T0++(⟨#[32]⟩++(qf x.name))=qD spT (zbV x)
    rw[K.out];unfold zbV;exact(zas (opP0_ne x) (by rw[a.out];exact H.out)).symm
   have z2:=za l.out.o 2 _ rfl;have hr:=rng1 s.out a.out H.out;have sn:=qh (n:=x.name) (by omega) (by omega)
   have s0:=l.out.sz;have r1:=qk ⟨#[32]⟩ (qf x.name) (by show 1<=_;omega) (by omega)
   have s1:((⟨#[32]⟩:ByteArray)++(qf x.name)).size<=1001:=by rw[ByteArray.size_append];show 1+_<=_;omega
   have r2:=qk T0 (⟨#[32]⟩++(qf x.name)) (by omega) (by omega)
   have A:(T0++(⟨#[32]⟩++(qf x.name))).size<=2000*2:=by rw[ByteArray.size_append];omega
   go_wp2_with fail;refine(Za (n:=x.name) (by omega) (by omega) _).mono ?_
   rintro e w3 ⟨rfl,b⟩;go_wp2;go_meet;exact⟨_,rfl,y.out,⟨zc l.out.o b,zj l.out.bel b,A⟩⟩
 case rest =>
 obtain⟨T1,rfl,h⟩:=hcut;have L:=hI h.out.1;have o:=hI h.out.2;clear h l K;obtain⟨q2,V⟩:∃ q,q=qr k:=⟨_,rfl⟩;have a3:=hI V.symm;obtain⟨B,i⟩:∃ z,z=wc:=⟨_,rfl⟩;subst i;have y1:=za o.out.o 1 _ rfl;have j:=flagO s.out a.out;rw[← V] at j;clear V;go_upto_if 20 with fail;go_cut [3] (fun v u=>∃ T,v=.string T/\Hid (T=qD spT (zcf x)/\XSt w u #[int i64 x.kind,.string x.own,int i64 x.name,.slice c x.lgn f,int i64 x.pe,int i64 x.len,int i64 x.hei,int i64 x.cl,.bool x.all,int i64 x.be,int i64 x.unt,int i64 x.now] T 3))
 case first =>
  clear j y1
  cases q2 with
  | false =>
   go_wp2;go_meet;exact⟨_,rfl,by rw[L.out];unfold zcf;exact(zat (by rw[a.out];exact a3.out)).symm,o.out.more (by omega)⟩
  | true =>
   have y:Hid (T1++(⟨#[32]⟩++x.own)=qD spT (zcf x)):=by
    show T1++(⟨#[32]⟩++x.own)=qD spT (zcf x)
    rw[L.out];unfold zcf;exact(zas (opP1_ne x) (by rw[a.out];exact a3.out)).symm
   have z1:=za o.out.o 1 _ rfl;have sn:x.own.size<=1000:=by
    have h1:=s.out.1.2.1;unfold qO at h1
    split at h1
    ·have:=h1.2.1;omega
    ·omega
   have s0:=o.out.sz;have r1:=qk ⟨#[32]⟩ x.own (by show 1<=_;omega) (by omega)
   have s1:((⟨#[32]⟩:ByteArray)++x.own).size<=1001:=by rw[ByteArray.size_append];show 1+_<=_;omega
   have r2:=qk T1 (⟨#[32]⟩++x.own) (by omega) (by omega)
   have A:(T1++(⟨#[32]⟩++x.own)).size<=2000*3:=by rw[ByteArray.size_append];omega
   have b:Below B.heap.size B B:=bZ;go_wp2;go_meet;exact⟨_,rfl,y.out,⟨zc o.out.o b,zj o.out.bel b,A⟩⟩
 case rest =>
 obtain⟨T2,rfl,h⟩:=hcut;have M:=hI h.out.1;have m:=hI h.out.2;clear h o L j y1;obtain⟨q3,X⟩:∃ q,q=decide (0<qx k):=⟨_,rfl⟩;have D:=hI X.symm;obtain⟨B,i⟩:∃ z,z=wc:=⟨_,rfl⟩;subst i;have y3:=za m.out.o 3 _ rfl;have j:=flagL s.out a.out;rw[← X] at j;clear X;go_upto_if 29 with fail;go_cut [3] (fun v u=>∃ T,v=.string T/\Hid (T=qD spT (zbW x)/\XSt w u #[int i64 x.kind,.string x.own,int i64 x.name,.slice c x.lgn f,int i64 x.pe,int i64 x.len,int i64 x.hei,int i64 x.cl,.bool x.all,int i64 x.be,int i64 x.unt,int i64 x.now] T 4))
 case first =>
  clear j y3
  cases q3 with
  | false =>
   go_wp2;go_meet;exact⟨_,rfl,by rw[M.out];unfold zbW;exact(zat (by rw[a.out];exact D.out)).symm,m.out.more (by omega)⟩
  | true =>
   have y:Hid (T2++(⟨#[32]⟩++(ZB x.lgn x.lg))=qD spT (zbW x)):=by
    show T2++(⟨#[32]⟩++(ZB x.lgn x.lg))=qD spT (zbW x)
    rw[M.out];unfold zbW;exact(zas (opP2_ne x) (by rw[a.out];exact D.out)).symm
   have z3:=za m.out.o 3 _ rfl;have hr:=rng3 s.out a.out D.out;have sn:(ZB x.lgn x.lg).size<=1000:=ziw s.out a.out D.out;have s0:=m.out.sz;have r1:=qk ⟨#[32]⟩ (ZB x.lgn x.lg) (by show 1<=_;omega) (by omega)
   have s1:((⟨#[32]⟩:ByteArray)++(ZB x.lgn x.lg)).size<=1001:=by rw[ByteArray.size_append];show 1+_<=_;omega
   have r2:=qk T2 (⟨#[32]⟩++(ZB x.lgn x.lg)) (by omega) (by omega)
   have A:(T2++(⟨#[32]⟩++(ZB x.lgn x.lg))).size<=2000*4:=by rw[ByteArray.size_append];omega
   go_wp2_with fail;refine(zhn c x.lgn f x.lg _ hr.2 (a7.out.below m.out.bel) s.out.2).mono ?_;rintro e w3 ⟨rfl,b⟩;go_wp2;go_meet;exact⟨_,rfl,y.out,⟨zc m.out.o b,zj m.out.bel b,A⟩⟩
 case rest =>
 obtain⟨T3,rfl,h⟩:=hcut;have N:=hI h.out.1;have d:=hI h.out.2;clear h m M j y3;obtain⟨q4,Y⟩:∃ q,q=qp k:=⟨_,rfl⟩;have F:=hI Y.symm;obtain⟨B,i⟩:∃ z,z=wc:=⟨_,rfl⟩;subst i;have C:=za d.out.o 0 _ rfl;go_wp2_with fail;have Q:=zY x.kind B;rw[flagP s.out a.out,← Y] at Q;clear Y;refine Q.mono ?_;clear Q;rintro e w1 ⟨rfl,t⟩;have t:=t.symm;subst t;clear C;go_upto_if 38 with fail;go_cut [3] (fun v u=>∃ T,v=.string T/\Hid (T=qD spT (zbX x)/\XSt w u #[int i64 x.kind,.string x.own,int i64 x.name,.slice c x.lgn f,int i64 x.pe,int i64 x.len,int i64 x.hei,int i64 x.cl,.bool x.all,int i64 x.be,int i64 x.unt,int i64 x.now] T 5))
 case first =>
  cases q4 with
  | false =>
   go_wp2;go_meet;exact⟨_,rfl,by rw[N.out];unfold zbX;exact(zat (by rw[a.out];exact F.out)).symm,d.out.more (by omega)⟩
  | true =>
   have y:Hid (T3++(⟨#[32]⟩++(qC x.p))=qD spT (zbX x)):=by
    show T3++(⟨#[32]⟩++(qC x.p))=qD spT (zbX x)
    rw[N.out];unfold zbX;exact(zas (opP3_ne x) (by rw[a.out];exact F.out)).symm
   have z4:=za d.out.o 4 _ rfl;have z5:=za d.out.o 5 _ rfl;have z6:=za d.out.o 6 _ rfl;have z7:=za d.out.o 7 _ rfl;have z8:=za d.out.o 8 _ rfl;have z9:=za d.out.o 9 _ rfl;have hr:=rng4 s.out a.out F.out;have sn:(qC x.p).size<=1000:=zhp s.out a.out F.out;have s0:=d.out.sz;have r1:=qk ⟨#[32]⟩ (qC x.p) (by show 1<=_;omega) (by omega)
   have s1:((⟨#[32]⟩:ByteArray)++(qC x.p)).size<=1001:=by rw[ByteArray.size_append];show 1+_<=_;omega
   have r2:=qk T3 (⟨#[32]⟩++(qC x.p)) (by omega) (by omega)
   have A:(T3++(⟨#[32]⟩++(qC x.p))).size<=2000*5:=by rw[ByteArray.size_append];omega
   go_wp2_with fail;refine(zgm x.p _ hr).mono ?_;rintro e w3 ⟨rfl,b⟩;go_wp2;go_meet;exact⟨_,rfl,y.out,⟨zc d.out.o b,zj d.out.bel b,A⟩⟩
 case rest =>
 obtain⟨T4,rfl,h⟩:=hcut;have O:=hI h.out.1;have p:=hI h.out.2;clear h d N;obtain⟨q5,Z⟩:∃ q,q=qs k:=⟨_,rfl⟩;have I:=hI Z.symm;obtain⟨B,i⟩:∃ z,z=wc:=⟨_,rfl⟩;subst i;have C:=za p.out.o 0 _ rfl;have j:=flagU s.out a.out;rw[← Z] at j;clear Z;go_upto_if 47 with fail;go_cut [3] (fun v u=>∃ T,v=.string T/\Hid (T=qD spT (zcg x)/\XSt w u #[int i64 x.kind,.string x.own,int i64 x.name,.slice c x.lgn f,int i64 x.pe,int i64 x.len,int i64 x.hei,int i64 x.cl,.bool x.all,int i64 x.be,int i64 x.unt,int i64 x.now] T 6))
 case first =>
  clear j C
  cases q5 with
  | false =>
   go_wp2;go_meet;exact⟨_,rfl,by rw[O.out];unfold zcg;exact(zat (by rw[a.out];exact I.out)).symm,p.out.more (by omega)⟩
  | true =>
   have y:Hid (T4++(⟨#[32]⟩++(qf x.unt))=qD spT (zcg x)):=by
    show T4++(⟨#[32]⟩++(qf x.unt))=qD spT (zcg x)
    rw[O.out];unfold zcg;exact(zas (opP4_ne x) (by rw[a.out];exact I.out)).symm
   have b8:=za p.out.o 10 _ rfl;have hr:=rng5 s.out a.out I.out;have sn:=qh (n:=x.unt) (by omega) (by omega)
   have s0:=p.out.sz;have r1:=qk ⟨#[32]⟩ (qf x.unt) (by show 1<=_;omega) (by omega)
   have s1:((⟨#[32]⟩:ByteArray)++(qf x.unt)).size<=1001:=by rw[ByteArray.size_append];show 1+_<=_;omega
   have r2:=qk T4 (⟨#[32]⟩++(qf x.unt)) (by omega) (by omega)
   have A:(T4++(⟨#[32]⟩++(qf x.unt))).size<=2000*6:=by rw[ByteArray.size_append];omega
   go_wp2_with fail;refine(Za (n:=x.unt) (by omega) (by omega) _).mono ?_
   rintro e w3 ⟨rfl,b⟩;go_wp2;go_meet;exact⟨_,rfl,y.out,⟨zc p.out.o b,zj p.out.bel b,A⟩⟩
 case rest =>
 obtain⟨T5,rfl,h⟩:=hcut;have P:=hI h.out.1;have r:=hI h.out.2;clear h p O j C;obtain⟨G,a0⟩:∃ q,q=Qg k:=⟨_,rfl⟩;have J:=hI a0.symm;obtain⟨B,i⟩:∃ z,z=wc:=⟨_,rfl⟩;subst i;have C:=za r.out.o 0 _ rfl;have j:=flagW s.out a.out;rw[← a0] at j;clear a0;go_upto_region 12 with fail;go_cut [61] (fun v u=>v=.bool G/\u=B)
 case first =>
  by_cases h6:x.kind=6
  ·have e6:(x.kind == 6)=true:=by rw[beq_iff_eq];exact h6
   have E:Hid (true=G):=by show true=G;rw[← j,e6];rfl
   clear j h6;go_wp2;go_meet;exact⟨congrArg Value.bool E.out,rfl⟩
  ·have e6:(x.kind == 6)=false:=by rw[beq_eq_false_iff_ne];exact h6
   by_cases h8:x.kind=8
   ·have e8:(x.kind == 8)=true:=by rw[beq_iff_eq];exact h8
    have E:Hid (true=G):=by show true=G;rw[← j,e6,e8];rfl
    clear j h6 h8;go_wp2;go_meet;exact⟨congrArg Value.bool E.out,rfl⟩
   ·have e8:(x.kind == 8)=false:=by rw[beq_eq_false_iff_ne];exact h8
    have E:Hid (false=G):=by show false=G;rw[← j,e6,e8];rfl
    clear j h6 h8;go_wp2;go_meet;exact⟨congrArg Value.bool E.out,rfl⟩
 case rest =>
 obtain⟨rfl,a1⟩:=hcut;have a1:=a1.symm;subst a1;clear C j;go_upto_if 61 with fail;go_cut [3] (fun v u=>∃ T,v=.string T/\Hid (T=qD spT (zcv x)/\XSt w u #[int i64 x.kind,.string x.own,int i64 x.name,.slice c x.lgn f,int i64 x.pe,int i64 x.len,int i64 x.hei,int i64 x.cl,.bool x.all,int i64 x.be,int i64 x.unt,int i64 x.now] T 7))
 case first =>
  cases G with
  | false =>
   go_wp2;go_meet;exact⟨_,rfl,by rw[P.out];unfold zcv;exact(zat (by rw[a.out];exact J.out)).symm,r.out.more (by omega)⟩
  | true =>
   have y:Hid (T5++(⟨#[32]⟩++(qf x.now))=qD spT (zcv x)):=by
    show T5++(⟨#[32]⟩++(qf x.now))=qD spT (zcv x)
    rw[P.out];unfold zcv;exact(zas (opP5_ne x) (by rw[a.out];exact J.out)).symm
   have b9:=za r.out.o 11 _ rfl;have hr:=rng6 s.out a.out J.out;have sn:=qh (n:=x.now) (by omega) (by omega)
   have s0:=r.out.sz;have r1:=qk ⟨#[32]⟩ (qf x.now) (by show 1<=_;omega) (by omega)
   have s1:((⟨#[32]⟩:ByteArray)++(qf x.now)).size<=1001:=by rw[ByteArray.size_append];show 1+_<=_;omega
   have r2:=qk T5 (⟨#[32]⟩++(qf x.now)) (by omega) (by omega)
   have A:(T5++(⟨#[32]⟩++(qf x.now))).size<=2000*7:=by rw[ByteArray.size_append];omega
   go_wp2_with fail;refine(Za (n:=x.now) (by omega) (by omega) _).mono ?_
   rintro e w3 ⟨rfl,b⟩;go_wp2;go_meet;exact⟨_,rfl,y.out,⟨zc r.out.o b,zj r.out.bel b,A⟩⟩
 case rest =>
 obtain⟨T6,rfl,h⟩:=hcut;have a9:=hI h.out.1;have a8:=hI h.out.2;clear h r P;go_wp2;go_ret;exact⟨by rw[a9.out];rfl,a8.out.bel⟩
theorem zgq (cs:List Value)(x:OpD)(w:World)(Y:x.own.size<=1000000000000000)(h:OpD.Is w cs x)(hn:x.lgn<=1000000000) :
  Calls Tryz.prog 6 #[.agg cs.toArray] w fun e w'=>e=.returned (.tuple #[.string (zbj x),.bool (ziv x)])/\Below w.heap.size w w':=by
 have U:=hI h;obtain⟨a,c,rfl,t,_⟩:=h;have s:=hI t;have j:Below w.heap.size w (w.alloc (.cells #[int i64 x.kind,.string x.own,int i64 x.name,.slice a x.lgn c,int i64 x.pe,int i64 x.len,int i64 x.hei,int i64 x.cl,.bool x.all,int i64 x.be,int i64 x.unt,int i64 x.now] 27)):=zr bZ _;have y:=heap_alloc_new w (.cells #[int i64 x.kind,.string x.own,int i64 x.name,.slice a x.lgn c,int i64 x.pe,int i64 x.len,int i64 x.hei,int i64 x.cl,.bool x.all,int i64 x.be,int i64 x.unt,int i64 x.now] 27);clear t;go_enter Tryz.func6,Tryz.ntmps6;go_upto_region 1 with fail;generalize w.alloc (.cells #[int i64 x.kind,.string x.own,int i64 x.name,.slice a x.lgn c,int i64 x.pe,int i64 x.len,int i64 x.hei,int i64 x.cl,.bool x.all,int i64 x.be,int i64 x.unt,int i64 x.now] 27)=W at j y ⊢;obtain⟨G,H,I,J,K,L,M,N,O,P,o,p⟩:=ce12 y;go_wp2_with fail;obtain⟨q,D⟩:∃ q,q=decide (Qz x):=⟨_,rfl⟩;have u:Hid (q=true↔Qz x):=by show q=true↔Qz x;rw[D,decide_eq_true_eq]
 have A:=zeq [int i64 x.kind,.string x.own,int i64 x.name,.slice a x.lgn c,int i64 x.pe,int i64 x.len,int i64 x.hei,int i64 x.cl,.bool x.all,int i64 x.be,int i64 x.unt,int i64 x.now] x W Y (U.out.below j);rw[← D] at A;clear D;refine A.mono ?_;clear A;rintro e F ⟨rfl,n⟩;have b2:=zc y n;have f:=zj j n;clear G H I J K L M N O P o p y j n
 cases q with
 | false =>
  have d:¬ qn x:=fun h=>by have:=u.out.2 h.1;cases this
  have m:=hI (zau d);clear d;go_wp2;exact bodyPost_ret (v:=.tuple #[.string ⟨#[]⟩,.bool false]) (by simp[results,Tryz.results6,go_sem]) rfl ⟨by rw[m.out.1,m.out.2],f⟩
 | true =>
  have z:Hid (Qz x):=by first|exact u.out.1 rfl|exact u.out.1 trivial
  have Z:=za b2 3 _ rfl;clear u;go_wp2;go_loopw [5,12] (fun _ E T=>∃ k:Nat,k<=x.lgn/\E=int i64 k/\Hid (∀ i,i<k->In (x.lg i) 0 99999)/\Hid (Below F.heap.size F T)) (fun _ E _=>x.lgn - (intOf E).toNat)
  case atStart=>exact⟨0,Nat.zero_le _,rfl,fun i X=>by omega,bZ⟩
  case round =>
   clear Z;obtain⟨k,hk,rfl,Q,r⟩:=hrel
   by_cases hlt:k<x.lgn
   ·obtain⟨b,off,rfl,C⟩:=s.out.below f k hlt
    have V:T.cell? ⟨b,off+k,none⟩=some (int i64 (x.lg k)):=(r.out.cell (World.block_lt_of_cell? F _ C)).trans C;clear C
    by_cases hin:In (x.lg k) 0 99999
    ·go_wp2_with fail
     refine(zhE (x.lg k) 0 99999 _ hin.1 hin.2).mono ?_;rintro e S ⟨rfl,l⟩;go_wp2;go_roundw
     case rel=>exact⟨k+1,by omega,by go_num,fun i X=>by
       by_cases e:i=k
       ·rw[e];exact hin
       ·exact Q.out i (by omega),l ▸ r.out⟩
     case measure=>simp[intOf];omega
    ·have d:¬ qn x:=fun h=>hin (h.2 k hlt)
     have m:=hI (zau d);clear d;go_wp2_with fail;refine(l1In_no (x.lg k) 0 99999 _ hin).mono ?_;rintro e S ⟨rfl,l⟩;have g:Below w.heap.size w S:=l ▸ zj f r.out;clear l;go_wp2;exact bodyPost_ret (v:=.tuple #[.string ⟨#[]⟩,.bool false]) (by simp[results,Tryz.results6,go_sem]) rfl ⟨by rw[m.out.1,m.out.2],g⟩
   ·obtain rfl:x.lgn=k:=by omega
    have R:Hid (qn x):=⟨z.out,Q.out⟩;have m:=hI (zav R.out);have b3:=zc b2 r.out;have g:=zj f r.out;obtain⟨G,H,I,J,K,L,M,N,O,P,o,p⟩:=ce12 b3;go_wp2_with fail;refine(l11Op_any x a c _ R.out (s.out.below g)).mono ?_;rintro e w4 ⟨rfl,B⟩;clear G H I J K L M N O P o p;go_wp2;exact bodyPost_ret (v:=.tuple #[.string (opT x),.bool true]) (by simp[results,Tryz.results6,go_sem]) rfl ⟨by rw[m.out.1,m.out.2],zj g B⟩
def Zo (a b:Int):ByteArray:=qf a++⟨#[47]⟩++qf b
def qu (p:qi):ByteArray:=if p.n=0 then ⟨#[45]⟩ else qD coT ((List.range p.n).map (fun i=>Zo (p.A i) (p.B i)))
theorem zcx {a b:Int}(c:In a 0 1000000)(d:In b 0 1000000):(Zo a b).size<=201:=by
 unfold In at c d;have s1:=qh (n:=a) (by omega) (by omega)
 have s2:=qh (n:=b) (by omega) (by omega)
 unfold Zo;rw[ByteArray.size_append,ByteArray.size_append]
 show _+1+_<=201
 omega
def zcL (p:qi):Prop:=p.n<=6/\∀ i,i<p.n->In (p.A i) 0 1000000/\In (p.B i) 0 1000000
theorem zbk {p:qi}(h:zcL p):(qD coT ((List.range p.n).map (fun i=>Zo (p.A i) (p.B i)))).size<=6006:=by
 have:=zbU coT (by show 1<=1;omega) ((List.range p.n).map (fun i=>Zo (p.A i) (p.B i))) (fun q c=>by
  obtain⟨i,b,rfl⟩:=List.mem_map.1 c;have a:=h.2 i (by simpa using b)
  have:=zcx a.1 a.2
  omega)
 rw[List.length_map,List.length_range] at this;have:=h.1
 omega
theorem zaL {p:qi}(h:zcL p):(qu p).size<=6006:=by
 unfold qu
 split
 ·show 1<=6006;omega
 ·exact zbk h
theorem zgr (a b:Int)(w:World)(i:In a 0 1000000)(j:In b 0 1000000)(g:Ze w) :
  Calls Tryz.prog 65 #[.agg #[int i64 a,int i64 b]] w fun e w'=>e=.returned (.string (Zo a b))/\Below w.heap.size w w':=by
 have c:Below w.heap.size w (w.alloc (.cells #[int i64 a,int i64 b] 106)):=zr bZ _;have d:=heap_alloc_new w (.cells #[int i64 a,int i64 b] 106);have h:=hI g;clear g;go_enter Tryz.func65,Tryz.ntmps65;go_upto_region 1 with fail;generalize w.alloc (.cells #[int i64 a,int i64 b] 106)=W at c d ⊢;have y0:=za d 0 _ rfl;have y1:=za d 1 _ rfl;go_wp2_with fail;refine(zbg a b _ i j (h.out.below c)).mono ?_;rintro e w2 ⟨rfl,f⟩;go_wp2;go_ret;exact⟨rfl,zj c f⟩
theorem zgs (F:Option Addr)(cap:Nat)(p:qi)(w:World)(C:zcL p)(H:qd w F p)(G:Ze w) :
  Calls Tryz.prog 64 #[.slice F p.n cap,.func (.func 65) #[] #[]] w fun e w'=>e=.returned (.string (qu p))/\Below w.heap.size w w':=by
 have E:=hI C;have B:=C.1;have K:=hI H;have J:=hI G;obtain⟨n,hn⟩:∃ n,n=p.n:=⟨_,rfl⟩;have q:=hI hn.symm;rw[← hn] at B ⊢;clear G C H hn
 by_cases h0:n=0
 ·have L:((n:Int) == 0)=true:=by rw[beq_iff_eq];omega
  have t:Hid ((⟨#[45]⟩:ByteArray)=qu p):=by show _=qu p;unfold qu;rw[if_pos (by rw[q.out];exact h0)]
  clear h0;go_enter Tryz.func64,Tryz.ntmps64;go_wp2;go_ret;exact⟨congrArg (fun z=>Ending.returned (Value.string z)) t.out,bZ⟩
 have N:=run_make_row' (P:=Tryz.prog) 46 9 (.string ⟨#[]⟩) 16 Tryz.underlying46 Tryz.infoText rfl .i64 .i64 n (by omega) (by omega)
 have L:((n:Int) == 0)=false:=by rw[beq_eq_false_iff_ne];omega
 go_enter Tryz.func64,Tryz.ntmps64;go_wp2;go_loopw [6,7,16] (fun _ _ i h=>∃ k:Nat,k<=n/\i=int i64 k/\Hid (h.rowIs w.heap.size 9 n (fun j=>if j<k then .string (Zo (p.A j) (p.B j)) else .string ⟨#[]⟩))/\Below w.heap.size w h)
  (fun _ _ i _=>n - (intOf i).toNat)
 case atStart=>exact⟨0,Nat.zero_le _,rfl,(World.rowIs_made _ _ _ _).congr (by simp),bZ.alloc (Nat.le_refl _) _⟩
 case round =>
  obtain⟨k,hk,rfl,d,c⟩:=hrel
  by_cases hlt:k<n
  ·obtain⟨b,off,rfl,x,hd⟩:=K.out k (by rw[q.out];exact hlt)
   have y:h.cell? ⟨b,off+k*2,none⟩=some (int i64 (p.A k)):=(c.cell (World.block_lt_of_cell? w _ x)).trans x;have A:h.cell? ⟨b,off+k*2+1,none⟩=some (int i64 (p.B k)):=(c.cell (World.block_lt_of_cell? w _ hd)).trans hd;have s:=E.out.2 k (by rw[q.out];exact hlt)
   have r:=hI s;clear x hd s;have g:Below w.heap.size w (h.alloc (.cells #[int i64 (p.A k),int i64 (p.B k)] 106)):=zr c _;have b1:=heap_alloc_new h (.cells #[int i64 (p.A k),int i64 (p.B k)] 106);have l:Hid _:=row_below d.out (zr bZ (.cells #[int i64 (p.A k),int i64 (p.B k)] 106));go_upto_region 7 with fail;generalize h.alloc (.cells #[int i64 (p.A k),int i64 (p.B k)] 106)=W at g b1 l ⊢;have Q:=za b1 0 _ rfl;have R:=za b1 1 _ rfl;clear y A d;go_wp2_with fail;refine(zgr (p.A k) (p.B k) _ r.out.1 r.out.2 (J.out.below g)).mono ?_;rintro e w2 ⟨rfl,m⟩;have a:=row_below l.out m;have o:=zj g m;have O:=a.cell (i:=k) hlt;have hf:=a.frozen k;simp only[Nat.lt_irrefl,if_false] at O;have u:=hI a;clear l c m g b1 Q R a;go_wp2;go_roundw
   case rel=>exact⟨k+1,by omega,by go_num,(World.rowIs.set u.out k _).congr (fun j M=>fill_step (fun j=>Value.string (Zo (p.A j) (p.B j))) _ k j),o.setCell (Nat.le_refl _) _⟩
   case measure=>simp[intOf];omega
  ·have f:h.rowIs w.heap.size 9 n (fun j=>.string (Zo (p.A j) (p.B j))):=d.out.congr (fun j M=>by rw[if_pos (by omega)])
   have I:=hI f;have D:=zbk E.out;rw[q.out] at D;have t:Hid (qD coT ((List.range n).map (fun i=>Zo (p.A i) (p.B i)))=qu p):=by show _=qu p;unfold qu;rw[q.out,if_neg h0]
   clear d f;go_wp2_with fail;refine(zfi coT w.heap.size n (fun i=>Zo (p.A i) (p.B i)) _ I.out (by omega) (by omega) (by omega)).mono ?_
   rintro e w3 ⟨rfl,v⟩;go_wp2;go_ret;exact⟨congrArg (fun z=>Ending.returned (Value.string z)) t.out,zj c v⟩
theorem zfl (a b:Int)(w:World)(i:In a 0 1000000)(j:In b 0 1000000)(g:Ze w) :
  Calls Tryz.prog 67 #[.agg #[int i64 a,int i64 b]] w fun e w'=>e=.returned (.string (Zo a b))/\Below w.heap.size w w':=by
 have c:Below w.heap.size w (w.alloc (.cells #[int i64 a,int i64 b] 110)):=zr bZ _;have d:=heap_alloc_new w (.cells #[int i64 a,int i64 b] 110);have h:=hI g;clear g;go_enter Tryz.func67,Tryz.ntmps67;go_upto_region 1 with fail;generalize w.alloc (.cells #[int i64 a,int i64 b] 110)=W at c d ⊢;have y0:=za d 0 _ rfl;have y1:=za d 1 _ rfl;go_wp2_with fail;refine(zbg a b _ i j (h.out.below c)).mono ?_;rintro e w2 ⟨rfl,f⟩;go_wp2;go_ret;exact⟨rfl,zj c f⟩
theorem zfm (F:Option Addr)(cap:Nat)(p:qi)(w:World)(C:zcL p)(H:qd w F p)(G:Ze w) :
  Calls Tryz.prog 66 #[.slice F p.n cap,.func (.func 67) #[] #[]] w fun e w'=>e=.returned (.string (qu p))/\Below w.heap.size w w':=by
 have E:=hI C;have B:=C.1;have K:=hI H;have J:=hI G;obtain⟨n,hn⟩:∃ n,n=p.n:=⟨_,rfl⟩;have q:=hI hn.symm;rw[← hn] at B ⊢;clear G C H hn
 by_cases h0:n=0
 ·have L:((n:Int) == 0)=true:=by rw[beq_iff_eq];omega
  have t:Hid ((⟨#[45]⟩:ByteArray)=qu p):=by show _=qu p;unfold qu;rw[if_pos (by rw[q.out];exact h0)]
  clear h0;go_enter Tryz.func66,Tryz.ntmps66;go_wp2;go_ret;exact⟨congrArg (fun z=>Ending.returned (Value.string z)) t.out,bZ⟩
 have N:=run_make_row' (P:=Tryz.prog) 46 9 (.string ⟨#[]⟩) 16 Tryz.underlying46 Tryz.infoText rfl .i64 .i64 n (by omega) (by omega)
 have L:((n:Int) == 0)=false:=by rw[beq_eq_false_iff_ne];omega
 go_enter Tryz.func66,Tryz.ntmps66;go_wp2;go_loopw [6,7,16] (fun _ _ i h=>∃ k:Nat,k<=n/\i=int i64 k/\Hid (h.rowIs w.heap.size 9 n (fun j=>if j<k then .string (Zo (p.A j) (p.B j)) else .string ⟨#[]⟩))/\Below w.heap.size w h)
  (fun _ _ i _=>n - (intOf i).toNat)
 case atStart=>exact⟨0,Nat.zero_le _,rfl,(World.rowIs_made _ _ _ _).congr (by simp),bZ.alloc (Nat.le_refl _) _⟩
 case round =>
  obtain⟨k,hk,rfl,d,c⟩:=hrel
  by_cases hlt:k<n
  ·obtain⟨b,off,rfl,x,hd⟩:=K.out k (by rw[q.out];exact hlt)
   have y:h.cell? ⟨b,off+k*2,none⟩=some (int i64 (p.A k)):=(c.cell (World.block_lt_of_cell? w _ x)).trans x;have A:h.cell? ⟨b,off+k*2+1,none⟩=some (int i64 (p.B k)):=(c.cell (World.block_lt_of_cell? w _ hd)).trans hd;have s:=E.out.2 k (by rw[q.out];exact hlt)
   have r:=hI s;clear x hd s;have g:Below w.heap.size w (h.alloc (.cells #[int i64 (p.A k),int i64 (p.B k)] 110)):=zr c _;have b1:=heap_alloc_new h (.cells #[int i64 (p.A k),int i64 (p.B k)] 110);have l:Hid _:=row_below d.out (zr bZ (.cells #[int i64 (p.A k),int i64 (p.B k)] 110));go_upto_region 7 with fail;generalize h.alloc (.cells #[int i64 (p.A k),int i64 (p.B k)] 110)=W at g b1 l ⊢;have Q:=za b1 0 _ rfl;have R:=za b1 1 _ rfl;clear y A d;go_wp2_with fail;refine(zfl (p.A k) (p.B k) _ r.out.1 r.out.2 (J.out.below g)).mono ?_;rintro e w2 ⟨rfl,m⟩;have a:=row_below l.out m;have o:=zj g m;have O:=a.cell (i:=k) hlt;have hf:=a.frozen k;simp only[Nat.lt_irrefl,if_false] at O;have u:=hI a;clear l c m g b1 Q R a;go_wp2;go_roundw
   case rel=>exact⟨k+1,by omega,by go_num,(World.rowIs.set u.out k _).congr (fun j M=>fill_step (fun j=>Value.string (Zo (p.A j) (p.B j))) _ k j),o.setCell (Nat.le_refl _) _⟩
   case measure=>simp[intOf];omega
  ·have f:h.rowIs w.heap.size 9 n (fun j=>.string (Zo (p.A j) (p.B j))):=d.out.congr (fun j M=>by rw[if_pos (by omega)])
   have I:=hI f;have D:=zbk E.out;rw[q.out] at D;have t:Hid (qD coT ((List.range n).map (fun i=>Zo (p.A i) (p.B i)))=qu p):=by show _=qu p;unfold qu;rw[q.out,if_neg h0]
   clear d f;go_wp2_with fail;refine(zfi coT w.heap.size n (fun i=>Zo (p.A i) (p.B i)) _ I.out (by omega) (by omega) (by omega)).mono ?_
   rintro e w3 ⟨rfl,v⟩;go_wp2;go_ret;exact⟨congrArg (fun z=>Ending.returned (Value.string z)) t.out,zj c v⟩
theorem ZC (x:Int)(w:World) :
  Calls Tryz.prog 60 #[int i64 x] w fun e w'=>e=.returned (.bool (decide (In x 1 99)))/\w'=w:=by
 go_enter Tryz.func60,Tryz.ntmps60;go_wp2_with (first|(go_at_call 31;refine(ql _ _ _ _).mono ?_;rintro e w' ⟨rfl,rfl⟩))
 go_ret;exact⟨rfl,rfl⟩
theorem Zd (a b:ByteArray)(w:World)(i:a.size<=1000000000000000)(k:b.size<=1000000000000000) :
  Calls Tryz.prog 61 #[.string a,.string b] w fun e w'=>e=.returned (.bool (decide (zaP a b)))/\w'=w:=by
 obtain⟨c,j⟩:∃ c,c=decide (zaP a b):=⟨_,rfl⟩;rw[← j];have g:=hI j;clear j
 by_cases n1:qK a
 ·have d1:decide (qK a)=true:=decide_eq_true n1
  by_cases n2:qK b
  ·have d2:decide (qK b)=true:=decide_eq_true n2
   by_cases n3:a=b
   ·subst n3
    have l:(a.toList == a.toList)=true:=Q4.2 rfl;have f:Hid (¬ zaP a a):=fun h=>h.2.2 rfl
    clear n1 n2;go_enter Tryz.func61,Tryz.ntmps61;go_wp2_with (first|(go_at_call 33;refine sC (Zz _ _ i) ?_))
    go_ret;exact⟨by rw[g.out,decide_eq_false f.out];rfl,rfl⟩
   ·have l:(a.toList == b.toList)=false:=zaz.2 n3
    have f:Hid (zaP a b):=⟨n1,n2,n3⟩;clear n1 n2 n3;go_enter Tryz.func61,Tryz.ntmps61;go_wp2_with fail;refine(Zz _ _ i).mono ?_;rintro e w' ⟨rfl,d⟩;have d:=d.symm;subst d;go_wp2_with fail;refine(Zz _ _ k).mono ?_;rintro e w' ⟨rfl,d⟩;have d:=d.symm;subst d;go_wp2;go_ret;exact⟨by rw[g.out,decide_eq_true f.out];rfl,rfl⟩
  ·have d2:decide (qK b)=false:=decide_eq_false n2
   have f:Hid (¬ zaP a b):=fun h=>n2 h.2.1
   clear n1 n2;go_enter Tryz.func61,Tryz.ntmps61;go_wp2_with fail;refine(Zz _ _ i).mono ?_;rintro e w' ⟨rfl,d⟩;have d:=d.symm;subst d;go_wp2_with fail;refine(Zz _ _ k).mono ?_;rintro e w' ⟨rfl,d⟩;have d:=d.symm;subst d;go_wp2;go_ret;exact⟨by rw[g.out,decide_eq_false f.out];rfl,rfl⟩
 ·have d1:decide (qK a)=false:=decide_eq_false n1
  have f:Hid (¬ zaP a b):=fun h=>n1 h.1
  clear n1;go_enter Tryz.func61,Tryz.ntmps61;go_wp2_with fail;refine(Zz _ _ i).mono ?_;rintro e w' ⟨rfl,d⟩;have d:=d.symm;subst d;go_wp2;go_ret;exact⟨by rw[g.out,decide_eq_false f.out];rfl,rfl⟩
theorem zfn (q:Option Addr)(n c:Nat)(p:qi)(w:World)(hl:p.n=n)(hn:n<=1048576)(x:qd w q p) :
  Calls Tryz.prog 62 #[.slice q n c] w fun e w'=>SaysIf (ZG p 4 1 5000 100 500) e/\Below w.heap.size w w':=by
 have f:=hI hl;clear hl
 by_cases h0:n<=4
 ·have r:decide (4<n)=false:=by simp;omega
  go_enter Tryz.func62,Tryz.ntmps62;go_wp2;go_loopw [4,10] (fun _ i y=>∃ k:Nat,k<=n/\i=int i64 k/\(∀ j,j<k->In (p.A j) 1 5000/\In (p.B j) 100 500)/\Below w.heap.size w y) (fun _ i _=>n - (intOf i).toNat)
  case atStart=>exact⟨0,Nat.zero_le _,rfl,fun j l=>by omega,bZ⟩
  case round =>
   obtain⟨k,hk,rfl,d,a⟩:=hrel;have o:=hI d;clear d r
   by_cases hlt:k<n
   ·obtain⟨b,off,rfl,m,s⟩:=x k (by rw[f.out];omega)
    have t:=World.block_lt_of_cell? w _ m;have c1:=(a.cell (p:=⟨b,off+k*2,none⟩) t).trans m;have c2:=(a.cell (p:=⟨b,off+k*2+1,none⟩) t).trans s;clear m s
    by_cases g1:In (p.A k) 1 5000
    ·have u:decide (In (p.A k) 1 5000)=true:=decide_eq_true g1
     by_cases g2:In (p.B k) 100 500
     ·have v:decide (In (p.B k) 100 500)=true:=decide_eq_true g2
      have g:Hid (In (p.A k) 1 5000/\In (p.B k) 100 500):=⟨g1,g2⟩;clear g1 g2;go_wp2_with (first|(go_at_call 31;refine sC (ql _ _ _ _) ?_))
      go_roundw
      case rel=>exact⟨k+1,by omega,by go_num,fun j l=>by
       by_cases e:j=k
       ·subst e;exact g.out
       ·exact o.out j (by omega),zr a _⟩
      case measure=>simp[intOf];omega
     ·have v:decide (In (p.B k) 100 500)=false:=decide_eq_false g2
      have g:=hI g2;clear g1 g2;go_wp2_with (first|(go_at_call 31;refine sC (ql _ _ _ _) ?_))
      go_ret;exact⟨zC (fun h=>g.out (h.2 k (by rw[f.out];exact hlt)).2),zr a _⟩
    ·have u:decide (In (p.A k) 1 5000)=false:=decide_eq_false g1
     have g:=hI g1;clear g1;go_wp2_with (first|(go_at_call 31;refine sC (ql _ _ _ _) ?_))
     go_ret;exact⟨zC (fun h=>g.out (h.2 k (by rw[f.out];exact hlt)).1),zr a _⟩
   ·obtain rfl:k=n:=by omega
    go_wp2;go_ret;exact⟨says_yes ⟨by rw[f.out];exact h0,fun j l=>o.out j (by rw[f.out] at l;exact l)⟩,a⟩
 ·have r:decide (4<n)=true:=by simp;omega
  go_enter Tryz.func62,Tryz.ntmps62;go_wp2;go_ret;exact⟨zC (fun h=>by have:=h.1;rw[f.out] at this;exact h0 this),bZ⟩
end Go.Proofs.YtfallpinmhbemaaGreatDoor

/-
  OWN TEXT: SpecSt2, PlainSp, PlainNu, NumI, PartI.
-/
import Derived.Lib.OthersKept
import Derived.Laws.RangeAny
import Derived.Lib.IndexMore
import Derived.Shelf.Small.Utf8
import Derived.Test.YtfallpinmhbemaaGreatDoorB37
namespace Go.Proofs.YtfallpinmhbemaaGreatDoor
open Go.RowKit
open Go.Value (int)
open Go.IntKind (i64)
set_option maxHeartbeats 64000000
set_option maxRecDepth 100000
theorem Tryz.infoIntS':(Tryz.prog.info? 23).map (fun i=>(i.zero,i.size,i.bytes))=some (some (.slice none 0 0),1,24):=by kernel_rfl
structure PSt (w a:World)(v:Value)(p:qi)(k:Nat)(g:Nat->Nat):Prop where
 own:a.ownsRow w.heap.size 23 1 v k ((List.range k).map (fun i=>.slice (some ⟨g i,0,none⟩) 2 2))
 el:∀ i,i<k->a.heap[g i]?=some (.cells #[int i64 (p.A i),int i64 (p.B i)] 3 (0,0))
theorem PSt.below {w a c:World}{v:Value}{p:qi}{k:Nat}{g:Nat->Nat}(h:PSt w a v p k g)(b:Below a.heap.size a c):PSt w c v p k g:=⟨zm b h.own,fun i d=>zc (h.el i d) b⟩
theorem PSt.app {w a b:World}{v j:Value}{p:qi}{k m:Nat}{g:Nat->Nat}(h:PSt w a v p k g)(f:a.heap[m]?=some (.cells #[int i64 (p.A k),int i64 (p.B k)] 3 (0,0)))(c:a.grownBy b v.ownBlock)
  (n:b.ownsRow w.heap.size 23 1 j (k+1) ((List.range k).map (fun i=>Value.slice (some ⟨g i,0,none⟩) 2 2)++[.slice (some ⟨m,0,none⟩) 2 2])):PSt w b j p (k+1) (fun i=>if i=k then m else g i):=by
 refine⟨?_,fun i d=>?_⟩
 ·have e:(List.range (k+1)).map (fun i=>Value.slice (some ⟨(if i=k then m else g i),0,none⟩) 2 2)=(List.range k).map (fun i=>Value.slice (some ⟨g i,0,none⟩) 2 2)++[.slice (some ⟨m,0,none⟩) 2 2]:=by
   rw[List.range_succ,List.map_append,List.map_cons,List.map_nil,if_pos rfl]
   congr 1
   refine List.map_congr_left fun i d=>?_
   have:i<k:=by simpa using d
   rw[if_neg (by omega)]
  rw[e];exact n
 ·by_cases e:i=k
  ·subst e
   rw[if_pos rfl];exact(zO c).blk f (fun e=>Zt h.own f (by decide) _ e rfl)
  ·rw[if_neg e]
   exact(zO c).blk (h.el i (by omega)) (fun l=>Zt h.own (h.el i (by omega)) (by decide) _ l rfl)
theorem PSt.rows {w d:World}{a:Option Addr}{c:Nat}{p:qi}{g:Nat->Nat}(h:PSt w d (.slice a p.n c) p p.n g):zhq d a p:=fun k e=>by
 obtain⟨b,rfl,_,_⟩:=qw h.own (by omega)
 refine⟨b,0,g k,rfl,?_,h.el k e⟩;rw[Nat.zero_add];exact zK h.own k (by omega) (by omega)
theorem text_all (s:Sail):(⟨#[115,97,105,108,32]⟩:ByteArray)++qf s.id++⟨#[32]⟩++s.fr++⟨#[32]⟩++s.dst++⟨#[32]⟩++qf s.dep++⟨#[32]⟩++qf s.arr++⟨#[32]⟩++qf s.most++⟨#[32]⟩++qu s.la++⟨#[32]⟩++qu s.ca=QS s:=by
 have a:∀ (l:List ByteArray) (p:ByteArray),l≠[]->qD spT (l++[p])=qD spT l++(⟨#[32]⟩++p):=fun l p hl=>ZR spT p hl
 unfold QS zfo;rw[show[zcU,qf s.id,s.fr,s.dst,qf s.dep,qf s.arr,qf s.most,qu s.la,qu s.ca]=((((((([zcU]++[qf s.id])++[s.fr])++[s.dst])++[qf s.dep])++[qf s.arr])++[qf s.most])++[qu s.la])++[qu s.ca] from rfl,
  a _ _ (by simp),a _ _ (by simp),a _ _ (by simp),a _ _ (by simp),a _ _ (by simp),a _ _ (by simp),a _ _ (by simp),a _ _ (by simp),ZH]
 rw[show(⟨#[115,97,105,108,32]⟩:ByteArray)=zcU++⟨#[32]⟩ from rfl];simp only[ByteArray.append_assoc]
theorem zhr (s:Sail)(lo co:Option Addr)(c1 c2:Nat)(w:World)(hs:zU s)(hx:qd w lo s.la)(hy:qd w co s.ca) :
  Calls Tryz.prog 27 #[.agg #[int i64 s.id,.string s.fr,.string s.dst,int i64 s.dep,int i64 s.arr,.slice lo s.la.n c1,.slice co s.ca.n c2,int i64 s.most]] w fun e w'=>e=.returned (.string (QS s))/\Below w.heap.size w w':=by
 have HG:=hI hs;have c5:Hid (qd w lo s.la/\qd w co s.ca):=⟨hx,hy⟩;obtain⟨H,Z⟩:∃ n,n=s.la.n:=⟨_,rfl⟩;obtain⟨I,a0⟩:∃ n,n=s.ca.n:=⟨_,rfl⟩;have D:Hid (s.la.n=H/\s.ca.n=I):=⟨Z.symm,a0.symm⟩;have n6:H<=6/\I<=6:=⟨by rw[Z];exact(zbp hs).1,by rw[a0];exact(zbq hs).1⟩
 obtain⟨j0,ji,c7,c8,c9⟩:=info_parts Tryz.infoIntS';rw[← Z,← a0];clear hs hx hy Z a0;have b8:Below w.heap.size w (w.alloc (.cells #[int i64 s.id,.string s.fr,.string s.dst,int i64 s.dep,int i64 s.arr,.slice lo H c1,.slice co I c2,int i64 s.most] 37)):=zr bZ _;have b0:=heap_alloc_new w (.cells #[int i64 s.id,.string s.fr,.string s.dst,int i64 s.dep,int i64 s.arr,.slice lo H c1,.slice co I c2,int i64 s.most] 37);go_enter Tryz.func27,Tryz.ntmps27;go_upto_region 1 with fail;generalize w.alloc (.cells #[int i64 s.id,.string s.fr,.string s.dst,int i64 s.dep,int i64 s.arr,.slice lo H c1,.slice co I c2,int i64 s.most] 37)=W at b8 b0 ⊢;have b5:=hI b8;have B0:=hI b0;have y5:=za b0 5 _ rfl;have H0:Hid (PSt W W (.slice none 0 0) s.la 0 (fun _=>0)):=⟨World.ownsRow_nil _ _ _ _,fun i hi=>by omega⟩
 clear b0 b8;go_wp2;go_loopw [3,6,12] (fun v _ i c=>∃ (k:Nat) (g:Nat->Nat),k<=H/\i=int i64 k/\Hid (PSt W c v s.la k g/\Below W.heap.size W c)) (fun _ _ i _=>H - (intOf i).toNat)
 case atStart=>exact⟨0,_,Nat.zero_le _,rfl,H0.out,bZ⟩
 case round =>
  obtain⟨k,g,hk,rfl,f⟩:=hrel;clear H0
  by_cases hlt:k<H
  ·obtain⟨b,off,rfl,hc,hd⟩:=(c5.out.1.below b5.out) k (by rw[D.out.1];exact hlt)
   have b9:c.cell? ⟨b,off+k*2,none⟩=some (int i64 (s.la.A k)):=(f.out.2.cell (World.block_lt_of_cell? W _ hc)).trans hc;have c0:c.cell? ⟨b,off+k*2+1,none⟩=some (int i64 (s.la.B k)):=(f.out.2.cell (World.block_lt_of_cell? W _ hd)).trans hd;clear hc hd;obtain⟨va,vc,rfl,_⟩:=zt f.out.1.own;have O:=heap_alloc_new c (.cells #[int i64 (s.la.A k),int i64 (s.la.B k)] 106);have l:Hid (PSt W (c.alloc (.cells #[int i64 (s.la.A k),int i64 (s.la.B k)] 106)) (.slice va k vc) s.la k g/\Below W.heap.size W (c.alloc (.cells #[int i64 (s.la.A k),int i64 (s.la.B k)] 106))):=⟨f.out.1.below (zr bZ _),zr f.out.2 _⟩;go_upto_region 5 with fail;generalize c.alloc (.cells #[int i64 (s.la.A k),int i64 (s.la.B k)] 106)=a at O l ⊢;have z0:=za O 0 _ rfl;have z1:=za O 1 _ rfl;clear f b9 c0 O;have d:Hid (PSt W ((a.alloc (.cells #[int i64 (s.la.A k),int i64 (s.la.B k)] 3)).alloc (.cells #[.slice (some ⟨a.heap.size,0,none⟩) 2 2] 23)) (.slice va k vc) s.la k g/\Below W.heap.size W ((a.alloc (.cells #[int i64 (s.la.A k),int i64 (s.la.B k)] 3)).alloc (.cells #[.slice (some ⟨a.heap.size,0,none⟩) 2 2] 23))):=⟨l.out.1.below (zr (zr bZ _) _),zr (zr l.out.2 _) _⟩;have HM:Hid (((a.alloc (.cells #[int i64 (s.la.A k),int i64 (s.la.B k)] 3)).alloc (.cells #[.slice (some ⟨a.heap.size,0,none⟩) 2 2] 23)).heap[a.heap.size]?=some (.cells #[int i64 (s.la.A k),int i64 (s.la.B k)] 3 (0,0))):=ze (heap_alloc_new a _) _;have r:=d.out.2.size;have G:(a.alloc (.cells #[int i64 (s.la.A k),int i64 (s.la.B k)] 3)).heap.size=a.heap.size+1:=by simp
   have E:Hid (∀ j u,[Value.slice (some ⟨a.heap.size,0,none⟩) 2 2][j]?=some u->((a.alloc (.cells #[int i64 (s.la.A k),int i64 (s.la.B k)] 3)).alloc (.cells #[.slice (some ⟨a.heap.size,0,none⟩) 2 2] 23)).cell? ((⟨a.heap.size+1,0,none⟩:Addr).add j)=some u):=by
    have:=World.news_of_block (heap_alloc_new (a.alloc (.cells #[int i64 (s.la.A k),int i64 (s.la.B k)] 3)) (.cells #[.slice (some ⟨a.heap.size,0,none⟩) 2 2] 23));rw[G] at this;exact this
   clear l;go_wp2_with (first|(at_builtin;refine zz _ (by rfl) (.tmp 16) (.tmp 22) 112 (by rfl) W.heap.size 23 j0 (.slice none 0 0) 1 24 Tryz.underlying112 ji c7 c8 c9 rfl (by decide) _ k ((List.range k).map (fun i=>Value.slice (some ⟨g i,0,none⟩) 2 2)) (by rfl) d.out.1.own (some ⟨a.heap.size+1,0,none⟩) 1 1 [.slice (some ⟨a.heap.size,0,none⟩) 2 2] (by rfl) (fun h=>by cases h) (by rfl) (fun ad h=>by cases h;exact E.out) (by intro u hu;simp only[List.mem_cons,List.not_mem_nil,or_false] at hu;subst hu;rfl) (by unfold maxLen;omega) (by omega) r ?_;intro v9 w9 F q))
   have b7:Hid (PSt W w9 v9 s.la (k+1) (fun i=>if i=k then a.heap.size else g i)/\Below W.heap.size W w9):=⟨d.out.1.app HM.out q F,d.out.2.grown q r (fun j hj=>(World.ownsRow.lt d.out.1.own j hj).1)⟩
   clear d HM E r G z0 z1 F q;go_roundw
   case rel=>exact⟨k+1,_,by omega,by go_num,b7.out⟩
   case measure=>simp[intOf];omega
  ·obtain rfl:H=k:=by omega
   clear y5;obtain⟨va,vc,rfl,_⟩:=zt f.out.1.own;have c3:Hid (zhq c va s.la):=by
    have h:=f.out.1;rw[← D.out.1] at h;exact h.rows
   have b6:=hI (zj b5.out f.out.2);have b2:=zc B0.out f.out.2;clear f B0 b5;obtain⟨p,e3⟩:∃ z,z=c:=⟨_,rfl⟩;subst e3;have y6:=za b2 6 _ rfl;have B2:=hI b2;clear b2;have H0:Hid (PSt p p (.slice none 0 0) s.ca 0 (fun _=>0)):=⟨World.ownsRow_nil _ _ _ _,fun i hi=>by omega⟩
   go_wp2;go_loopw [4,8,28] (fun v _ i c=>∃ (k:Nat) (g:Nat->Nat),k<=I/\i=int i64 k/\Hid (PSt p c v s.ca k g/\Below p.heap.size p c)) (fun _ _ i _=>I - (intOf i).toNat)
   case atStart=>exact⟨0,_,Nat.zero_le _,rfl,H0.out,bZ⟩
   case round =>
    obtain⟨k,g,hk,rfl,f⟩:=hrel;clear H0
    by_cases hlt:k<I
    ·obtain⟨b,off,rfl,hc,hd⟩:=(c5.out.2.below b6.out) k (by rw[D.out.2];exact hlt)
     have b9:c.cell? ⟨b,off+k*2,none⟩=some (int i64 (s.ca.A k)):=(f.out.2.cell (World.block_lt_of_cell? p _ hc)).trans hc;have c0:c.cell? ⟨b,off+k*2+1,none⟩=some (int i64 (s.ca.B k)):=(f.out.2.cell (World.block_lt_of_cell? p _ hd)).trans hd;clear hc hd;obtain⟨va,vc,rfl,_⟩:=zt f.out.1.own;have O:=heap_alloc_new c (.cells #[int i64 (s.ca.A k),int i64 (s.ca.B k)] 110);have l:Hid (PSt p (c.alloc (.cells #[int i64 (s.ca.A k),int i64 (s.ca.B k)] 110)) (.slice va k vc) s.ca k g/\Below p.heap.size p (c.alloc (.cells #[int i64 (s.ca.A k),int i64 (s.ca.B k)] 110))):=⟨f.out.1.below (zr bZ _),zr f.out.2 _⟩;go_upto_region 10 with fail;generalize c.alloc (.cells #[int i64 (s.ca.A k),int i64 (s.ca.B k)] 110)=a at O l ⊢;have z0:=za O 0 _ rfl;have z1:=za O 1 _ rfl;clear f b9 c0 O;have d:Hid (PSt p ((a.alloc (.cells #[int i64 (s.ca.A k),int i64 (s.ca.B k)] 3)).alloc (.cells #[.slice (some ⟨a.heap.size,0,none⟩) 2 2] 23)) (.slice va k vc) s.ca k g/\Below p.heap.size p ((a.alloc (.cells #[int i64 (s.ca.A k),int i64 (s.ca.B k)] 3)).alloc (.cells #[.slice (some ⟨a.heap.size,0,none⟩) 2 2] 23))):=⟨l.out.1.below (zr (zr bZ _) _),zr (zr l.out.2 _) _⟩;have HM:Hid (((a.alloc (.cells #[int i64 (s.ca.A k),int i64 (s.ca.B k)] 3)).alloc (.cells #[.slice (some ⟨a.heap.size,0,none⟩) 2 2] 23)).heap[a.heap.size]?=some (.cells #[int i64 (s.ca.A k),int i64 (s.ca.B k)] 3 (0,0))):=ze (heap_alloc_new a _) _;have r:=d.out.2.size;have G:(a.alloc (.cells #[int i64 (s.ca.A k),int i64 (s.ca.B k)] 3)).heap.size=a.heap.size+1:=by simp
     have E:Hid (∀ j u,[Value.slice (some ⟨a.heap.size,0,none⟩) 2 2][j]?=some u->((a.alloc (.cells #[int i64 (s.ca.A k),int i64 (s.ca.B k)] 3)).alloc (.cells #[.slice (some ⟨a.heap.size,0,none⟩) 2 2] 23)).cell? ((⟨a.heap.size+1,0,none⟩:Addr).add j)=some u):=by
      have:=World.news_of_block (heap_alloc_new (a.alloc (.cells #[int i64 (s.ca.A k),int i64 (s.ca.B k)] 3)) (.cells #[.slice (some ⟨a.heap.size,0,none⟩) 2 2] 23));rw[G] at this;exact this
     clear l;go_wp2_with (first|(at_builtin;refine zz _ (by rfl) (.tmp 32) (.tmp 38) 112 (by rfl) p.heap.size 23 j0 (.slice none 0 0) 1 24 Tryz.underlying112 ji c7 c8 c9 rfl (by decide) _ k ((List.range k).map (fun i=>Value.slice (some ⟨g i,0,none⟩) 2 2)) (by rfl) d.out.1.own (some ⟨a.heap.size+1,0,none⟩) 1 1 [.slice (some ⟨a.heap.size,0,none⟩) 2 2] (by rfl) (fun h=>by cases h) (by rfl) (fun ad h=>by cases h;exact E.out) (by intro u hu;simp only[List.mem_cons,List.not_mem_nil,or_false] at hu;subst hu;rfl) (by unfold maxLen;omega) (by omega) r ?_;intro v9 w9 F q))
     have b7:Hid (PSt p w9 v9 s.ca (k+1) (fun i=>if i=k then a.heap.size else g i)/\Below p.heap.size p w9):=⟨d.out.1.app HM.out q F,d.out.2.grown q r (fun j hj=>(World.ownsRow.lt d.out.1.own j hj).1)⟩
     clear d HM E r G z0 z1 F q;go_roundw
     case rel=>exact⟨k+1,_,by omega,by go_num,b7.out⟩
     case measure=>simp[intOf];omega
    ·obtain rfl:I=k:=by omega
     clear y6;obtain⟨vb,vd,rfl,_⟩:=zt f.out.1.own;have e0:Hid (zhq c vb s.ca):=by
      have h:=f.out.1;rw[← D.out.2] at h;exact h.rows
     have c4:=hI (c3.out.below f.out.2);have d0:=hI (zj b6.out f.out.2);have b3:=zc B2.out f.out.2;clear f c3 b6 B2;have lA:=zZ b3;have x0:∀ h:qe c,h.val.cell? ⟨w.heap.size,0,none⟩=some (int i64 s.id):=fun h=>(h.bel.cell lA).trans (za b3 0 _ rfl)
     have x1:∀ h:qe c,h.val.cell? ⟨w.heap.size,1,none⟩=some (.string s.fr):=fun h=>(h.bel.cell lA).trans (za b3 1 _ rfl)
     have x2:∀ h:qe c,h.val.cell? ⟨w.heap.size,2,none⟩=some (.string s.dst):=fun h=>(h.bel.cell lA).trans (za b3 2 _ rfl)
     have x3:∀ h:qe c,h.val.cell? ⟨w.heap.size,3,none⟩=some (int i64 s.dep):=fun h=>(h.bel.cell lA).trans (za b3 3 _ rfl)
     have x4:∀ h:qe c,h.val.cell? ⟨w.heap.size,4,none⟩=some (int i64 s.arr):=fun h=>(h.bel.cell lA).trans (za b3 4 _ rfl)
     have x7:∀ h:qe c,h.val.cell? ⟨w.heap.size,7,none⟩=some (int i64 s.most):=fun h=>(h.bel.cell lA).trans (za b3 7 _ rfl)
     clear b3;have m:Hid _:=zbY HG.out;have rg:=m.out;have m0:=qh (n:=s.id) (by omega) (by omega)
     have m1:=qh (n:=s.dep) (by omega) (by omega)
     have m2:=qh (n:=s.arr) (by omega) (by omega)
     have m3:=qh (n:=s.most) (by omega) (by omega)
     have m4:=zaL (zbp HG.out);have m5:=zaL (zbq HG.out);have q1:(⟨#[32]⟩:ByteArray).size=1:=rfl;have q2:(⟨#[115,97,105,108,32]⟩:ByteArray).size=5:=rfl;have m6:=rg.2.2.2.2.1;have m7:=rg.2.2.2.2.2;have o:=text_all s;obtain⟨a1,P⟩:∃ z,z=(⟨#[115,97,105,108,32]⟩:ByteArray)++(qf s.id):=⟨_,rfl⟩;have z1:a1.size<=1*7000:=by rw[P,ByteArray.size_append];omega
     have r1:∀ W:World,(Op.stringOp .add ⟨#[115,97,105,108,32]⟩ (qf s.id)).run Tryz.prog W=.ok (.string a1) W:=by rw[P];exact qk _ _ (by omega) (by omega)
     rw[← P] at o;clear P;obtain⟨a2,Q⟩:∃ z,z=a1++⟨#[32]⟩:=⟨_,rfl⟩;have z2:a2.size<=2*7000:=by rw[Q,ByteArray.size_append];omega
     have r2:∀ W:World,(Op.stringOp .add a1 ⟨#[32]⟩).run Tryz.prog W=.ok (.string a2) W:=by rw[Q];exact qk _ _ (by omega) (by omega)
     rw[← Q] at o;clear Q;obtain⟨a3,R⟩:∃ z,z=a2++s.fr:=⟨_,rfl⟩;have z3:a3.size<=3*7000:=by rw[R,ByteArray.size_append];omega
     have r3:∀ W:World,(Op.stringOp .add a2 s.fr).run Tryz.prog W=.ok (.string a3) W:=by rw[R];exact qk _ _ (by omega) (by omega)
     rw[← R] at o;clear R;obtain⟨a4,S⟩:∃ z,z=a3++⟨#[32]⟩:=⟨_,rfl⟩;have z4:a4.size<=4*7000:=by rw[S,ByteArray.size_append];omega
     have r4:∀ W:World,(Op.stringOp .add a3 ⟨#[32]⟩).run Tryz.prog W=.ok (.string a4) W:=by rw[S];exact qk _ _ (by omega) (by omega)
     rw[← S] at o;clear S;obtain⟨a5,T⟩:∃ z,z=a4++s.dst:=⟨_,rfl⟩;have z5:a5.size<=5*7000:=by rw[T,ByteArray.size_append];omega
     have r5:∀ W:World,(Op.stringOp .add a4 s.dst).run Tryz.prog W=.ok (.string a5) W:=by rw[T];exact qk _ _ (by omega) (by omega)
     rw[← T] at o;clear T;obtain⟨a6,U⟩:∃ z,z=a5++⟨#[32]⟩:=⟨_,rfl⟩;have z6:a6.size<=6*7000:=by rw[U,ByteArray.size_append];omega
     have r6:∀ W:World,(Op.stringOp .add a5 ⟨#[32]⟩).run Tryz.prog W=.ok (.string a6) W:=by rw[U];exact qk _ _ (by omega) (by omega)
     rw[← U] at o;clear U;obtain⟨a7,V⟩:∃ z,z=a6++(qf s.dep):=⟨_,rfl⟩;have z7:a7.size<=7*7000:=by rw[V,ByteArray.size_append];omega
     have r7:∀ W:World,(Op.stringOp .add a6 (qf s.dep)).run Tryz.prog W=.ok (.string a7) W:=by rw[V];exact qk _ _ (by omega) (by omega)
     rw[← V] at o;clear V;obtain⟨a8,X⟩:∃ z,z=a7++⟨#[32]⟩:=⟨_,rfl⟩;have z8:a8.size<=8*7000:=by rw[X,ByteArray.size_append];omega
     have r8:∀ W:World,(Op.stringOp .add a7 ⟨#[32]⟩).run Tryz.prog W=.ok (.string a8) W:=by rw[X];exact qk _ _ (by omega) (by omega)
     rw[← X] at o;clear X;obtain⟨a9,Y⟩:∃ z,z=a8++(qf s.arr):=⟨_,rfl⟩;have z9:a9.size<=9*7000:=by rw[Y,ByteArray.size_append];omega
     have r9:∀ W:World,(Op.stringOp .add a8 (qf s.arr)).run Tryz.prog W=.ok (.string a9) W:=by rw[Y];exact qk _ _ (by omega) (by omega)
     rw[← Y] at o;clear Y;obtain⟨J,t⟩:∃ z,z=a9++⟨#[32]⟩:=⟨_,rfl⟩;have f0:J.size<=10*7000:=by rw[t,ByteArray.size_append];omega
     have e4:∀ W:World,(Op.stringOp .add a9 ⟨#[32]⟩).run Tryz.prog W=.ok (.string J) W:=by rw[t];exact qk _ _ (by omega) (by omega)
     rw[← t] at o;clear t;obtain⟨K,x⟩:∃ z,z=J++(qf s.most):=⟨_,rfl⟩;have f1:K.size<=11*7000:=by rw[x,ByteArray.size_append];omega
     have e5:∀ W:World,(Op.stringOp .add J (qf s.most)).run Tryz.prog W=.ok (.string K) W:=by rw[x];exact qk _ _ (by omega) (by omega)
     rw[← x] at o;clear x;obtain⟨L,y⟩:∃ z,z=K++⟨#[32]⟩:=⟨_,rfl⟩;have f2:L.size<=12*7000:=by rw[y,ByteArray.size_append];omega
     have e6:∀ W:World,(Op.stringOp .add K ⟨#[32]⟩).run Tryz.prog W=.ok (.string L) W:=by rw[y];exact qk _ _ (by omega) (by omega)
     rw[← y] at o;clear y;obtain⟨M,A⟩:∃ z,z=L++(qu s.la):=⟨_,rfl⟩;have f4:M.size<=13*7000:=by rw[A,ByteArray.size_append];omega
     have e7:∀ W:World,(Op.stringOp .add L (qu s.la)).run Tryz.prog W=.ok (.string M) W:=by rw[A];exact qk _ _ (by omega) (by omega)
     rw[← A] at o;clear A;obtain⟨N,B⟩:∃ z,z=M++⟨#[32]⟩:=⟨_,rfl⟩;have f5:N.size<=14*7000:=by rw[B,ByteArray.size_append];omega
     have e8:∀ W:World,(Op.stringOp .add M ⟨#[32]⟩).run Tryz.prog W=.ok (.string N) W:=by rw[B];exact qk _ _ (by omega) (by omega)
     rw[← B] at o;clear B;obtain⟨c6,C⟩:∃ z,z=N++(qu s.ca):=⟨_,rfl⟩;have f6:c6.size<=15*7000:=by rw[C,ByteArray.size_append];omega
     have e9:∀ W:World,(Op.stringOp .add N (qu s.ca)).run Tryz.prog W=.ok (.string c6) W:=by rw[C];exact qk _ _ (by omega) (by omega)
     rw[← C] at o;clear C;have d5:=hI o;clear o rg;have d6:Hid (∀ W:World,Calls Tryz.prog 47 #[int i64 s.id] W fun e w'=>e=.returned (.string (qf s.id))/\Below W.heap.size W w'):=fun W=>Za (by have:=m.out.1;omega) (by have:=m.out.1;omega) W
     have d7:Hid (∀ W:World,Calls Tryz.prog 47 #[int i64 s.dep] W fun e w'=>e=.returned (.string (qf s.dep))/\Below W.heap.size W w'):=fun W=>Za (by have:=m.out.2.1;omega) (by have:=m.out.2.1;omega) W
     have d8:Hid (∀ W:World,Calls Tryz.prog 47 #[int i64 s.arr] W fun e w'=>e=.returned (.string (qf s.arr))/\Below W.heap.size W w'):=fun W=>Za (by have:=m.out.2.2.1;omega) (by have:=m.out.2.2.1;omega) W
     have d9:Hid (∀ W:World,Calls Tryz.prog 47 #[int i64 s.most] W fun e w'=>e=.returned (.string (qf s.most))/\Below W.heap.size W w'):=fun W=>Za (by have:=m.out.2.2.2.1;omega) (by have:=m.out.2.2.2.1;omega) W
     have e1:Hid (∀ h:qe c,Calls Tryz.prog 68 #[.slice va H vc] h.val fun e w'=>e=.returned (.string (qu s.la))/\Below h.val.heap.size h.val w'):=fun h=>by rw[← D.out.1];exact zcM va vc s.la _ (zbp HG.out) (c4.out.below h.bel)
     have e2:Hid (∀ h:qe c,Calls Tryz.prog 68 #[.slice vb I vd] h.val fun e w'=>e=.returned (.string (qu s.ca))/\Below h.val.heap.size h.val w'):=fun h=>by rw[← D.out.2];exact zcM vb vd s.ca _ (zbq HG.out) (e0.out.below h.bel)
     go_upto_region 12 with fail;refine zp (by kernel_rfl) (by kernel_rfl) ?_
     repeat(first|go_big_quiet_skip|(go_big_quiet_want;go_big_quiet_op;first|go_big_quiet_on|(apply Exists.intro;refine⟨fun g=>?_,?_⟩;(focus(first|(go_at_call 47;with_reducible refine zi (v:=.string (qf s.id)) (d6.out _))|(go_at_call 47;with_reducible refine zi (v:=.string (qf s.dep)) (d7.out _))|(go_at_call 47;with_reducible refine zi (v:=.string (qf s.arr)) (d8.out _))|(go_at_call 47;with_reducible refine zi (v:=.string (qf s.most)) (d9.out _))|(go_at_call 68;with_reducible refine zi (v:=.string (qu s.la)) (e1.out _))|(go_at_call 68;with_reducible refine zi (v:=.string (qu s.ca)) (e2.out _))));go_big_quiet_on)))
     refine wpQuiet_nil ?_;rintro _ ⟨h,rfl⟩;go_wp2;go_ret;exact⟨congrArg (fun z=>Ending.returned (Value.string z)) d5.out,zj d0.out h.bel⟩
theorem zfq (s:Sail)(lo d:Option Addr)(i j:Nat)(w:World)(o:s.fr.size<=1000000000000000)(p:s.dst.size<=1000000000000000)(hn:s.la.n<=1048576)(G:s.ca.n<=1048576)(u:qd w lo s.la)(x:qd w d s.ca) :
  Calls Tryz.prog 11 #[.agg #[int i64 s.id,.string s.fr,.string s.dst,int i64 s.dep,int i64 s.arr,.slice lo s.la.n i,.slice d s.ca.n j,int i64 s.most]] w fun e w'=>e=.returned (.tuple #[.string (zfp s),.bool (zdv s)])/\Below w.heap.size w w':=by
 have b:Hid (qd w lo s.la/\qd w d s.ca):=⟨u,x⟩;have a:Below w.heap.size w (w.alloc (.cells #[int i64 s.id,.string s.fr,.string s.dst,int i64 s.dep,int i64 s.arr,.slice lo s.la.n i,.slice d s.ca.n j,int i64 s.most] 37)):=zr bZ _;have l:=heap_alloc_new w (.cells #[int i64 s.id,.string s.fr,.string s.dst,int i64 s.dep,int i64 s.arr,.slice lo s.la.n i,.slice d s.ca.n j,int i64 s.most] 37);clear u x;go_enter Tryz.func11,Tryz.ntmps11;go_upto_region 1 with fail;generalize w.alloc (.cells #[int i64 s.id,.string s.fr,.string s.dst,int i64 s.dep,int i64 s.arr,.slice lo s.la.n i,.slice d s.ca.n j,int i64 s.most] 37)=W at a l ⊢;obtain⟨y,z,A,B,C,D,E,F⟩:=ce8 l;go_wp2_with fail;refine(Zw _ _ _ _ _ _ _ _ _ _ _ _ s.la s.ca _ rfl rfl o p hn G (b.out.1.below a) (b.out.2.below a)).mono ?_;rintro e w2 ⟨⟨q,rfl,t⟩,f⟩;have m:=hI t;have b2:=zc l f;have c:=zj a f;clear y z A B C D E F l a f t
 cases q with
 | false =>
  have k:¬ zU s:=fun h=>by have:=m.out.2 h;cases this
  have g:=hI (zdx k);clear k;go_wp2;exact bodyPost_ret (v:=.tuple #[.string ⟨#[]⟩,.bool false]) (by simp[results,Tryz.results11,go_sem]) rfl ⟨by rw[g.out.1,g.out.2],c⟩
 | true =>
  have r:Hid (zU s):=by first|exact m.out.1 rfl|exact m.out.1 trivial
  have g:=hI (zaw r.out);obtain⟨y,z,A,B,C,D,E,F⟩:=ce8 b2;go_wp2_with fail;refine(zhr s lo d i j _ r.out (b.out.1.below c) (b.out.2.below c)).mono ?_;rintro e w4 ⟨rfl,n⟩;go_wp2;exact bodyPost_ret (v:=.tuple #[.string (QS s),.bool true]) (by simp[results,Tryz.results11,go_sem]) rfl ⟨by rw[g.out.1,g.out.2],zj c n⟩
def oneT (p:UInt8):ByteArray:=⟨#[p]⟩
theorem zfr {p:UInt8}:∀ {a b x y:List UInt8},p∉a->p∉b->a++p :: x=b++p :: y->a=b/\x=y
 | [],[],_,_,_,_,h=>by simpa using h
 | [],c :: b,_,_,_,hb,h=>by
  simp at h;exact absurd (by rw[h.1];simp) hb
 | c :: a,[],_,_,ha,_,h=>by
  simp at h;exact absurd (by rw[h.1];simp) ha
 | c :: a,d :: b,x,y,ha,hb,h=>by
  simp at h;obtain⟨rfl,h⟩:=h;obtain⟨rfl,rfl⟩:=zfr (a:=a) (b:=b) (fun m=>ha (by simp[m])) (fun m=>hb (by simp[m])) h
  exact⟨rfl,rfl⟩
def zbZ (p:UInt8)(s:List UInt8)(l:List (List UInt8)):Prop:=l≠[]/\Lib.join l [p]=s/\∀ q,q ∈ l->p∉q
theorem zaN (p:UInt8)(a b:List UInt8)(r:List (List UInt8)):Lib.join (a :: b :: r) [p]=a++p :: Lib.join (b :: r) [p]:=by
 rw[Lib.join_cons,Lib.join_cons];simp[Lib.joinTail]
theorem zew {p:UInt8}:∀ {l m:List (List UInt8)}{s:List UInt8},zbZ p s l->zbZ p s m->l=m
 | [],_,_,h,_=>absurd rfl h.1
 | _,[],_,_,h=>absurd rfl h.1
 | [a],[b],_,h,k=>by
  have e:=h.2.1;have k2:=k.2.1;rw[Lib.join_one] at e k2;rw[e,k2]
 | [a],b :: c :: r,_,h,k=>by
  have e:=h.2.1;have k2:=k.2.1;rw[Lib.join_one] at e;rw[zaN] at k2;exact absurd (by rw[e,← k2];simp) (h.2.2 a (by simp))
 | a :: d :: r,[b],_,h,k=>by
  have e:=h.2.1;have k2:=k.2.1;rw[Lib.join_one] at k2;rw[zaN] at e;exact absurd (by rw[k2,← e];simp) (k.2.2 b (by simp))
 | a :: d :: r,b :: c :: t,s,h,k=>by
  have e:=h.2.1;have k2:=k.2.1;rw[zaN] at e k2;obtain⟨g,i⟩:=zfr (h.2.2 a (by simp)) (k.2.2 b (by simp)) (e.trans k2.symm)
  have:=zew (l:=d :: r) (m:=c :: t) (s:=Lib.join (d :: r) [p]) ⟨by simp,rfl,fun q f=>h.2.2 q (by simp at f ⊢;exact .inr f)⟩ ⟨by simp,i.symm,fun q f=>k.2.2 q (by simp at f ⊢;exact .inr f)⟩
  rw[g,this]
def Q2 (p:UInt8)(s:ByteArray)(l:List ByteArray):Prop:=l≠[]/\qD (oneT p) l=s/\∀ q,q ∈ l->p∉q.data.toList
theorem Q2.list {p:UInt8}{s:ByteArray}{l:List ByteArray}(h:Q2 p s l):zbZ p s.data.toList (l.map (·.data.toList)):=by
 refine⟨by simpa using h.1,?_,fun q a=>?_⟩
 ·rw[← h.2.1]
  unfold qD oneT;simp
 ·obtain⟨x,b,rfl⟩:=List.mem_map.1 a
  exact h.2.2 x b
theorem zda {a b:ByteArray}(h:a.data.toList=b.data.toList):a=b:=by
 apply ByteArray.ext
 have:=congrArg List.toArray h
 simpa using this
theorem zcN:∀ {l m:List ByteArray},l.map (·.data.toList)=m.map (·.data.toList)->l=m
 | [],[],_=>rfl
 | [],_ :: _,h=>by simp at h
 | _ :: _,[],h=>by simp at h
 | a :: l,b :: m,h=>by
  simp only[List.map_cons,List.cons.injEq] at h;rw[zda h.1,zcN h.2]
theorem zax {p:UInt8}{s:ByteArray}{l m:List ByteArray}(h:Q2 p s l)(k:Q2 p s m):l=m:=zcN (zew h.list k.list)
/-! ### Numbers -/
def ZS (c:UInt8):Prop:=48<=c.toNat/\c.toNat<=57
def zdJ (l:List UInt8):Nat:=l.foldl (fun a c=>10*a+(c.toNat - 48)) 0
theorem zdz (l:List UInt8)(c:UInt8):zdJ (l++[c])=10*zdJ l+(c.toNat - 48):=by simp[zdJ]
theorem zdb {d:Nat}(h:d<10):ZS (UInt8.ofNat (48+d))/\(UInt8.ofNat (48+d)).toNat - 48=d:=by
 have e:(UInt8.ofNat (48+d)).toNat=48+d:=by simp;omega
 unfold ZS;rw[e]
 omega
theorem zex (u:Nat):∀ c,c ∈ Lib.decDigits u->ZS c:=by
 induction u using Nat.strongRecOn with
 | _ u ih =>
  intro c a
  by_cases h:u<10
  ·rw[Lib.decDigits_one h] at a
   rw[List.mem_singleton] at a;rw[a];exact(zdb h).1
  ·rw[Lib.decDigits,dif_neg h] at a
   rcases List.mem_append.1 a with a|a
   ·exact ih (u / 10) (by omega) c a
   ·rw[List.mem_singleton] at a
    rw[a];exact(zdb (d:=u % 10) (by omega)).1
theorem zhs (u:Nat):zdJ (Lib.decDigits u)=u:=by
 induction u using Nat.strongRecOn with
 | _ u ih =>
  by_cases h:u<10
  ·rw[Lib.decDigits_one h]
   have:=(zdb h).2;simp[zdJ] at this ⊢
   omega
  ·rw[Lib.decDigits,dif_neg h,zdz,ih (u / 10) (by omega),(zdb (d:=u % 10) (by omega)).2]
   omega
theorem dec_len {u:Nat}(h:u<=99999):1<=(Lib.decDigits u).length/\(Lib.decDigits u).length<=5:=by
 rw[Lib.decDigits_length];refine⟨Lib.nDigits_pos u,?_⟩;have b:∀ k u,u<10 ^ (k+1)->Lib.nDigits u<=k+1:=by
  intro k
  induction k with
  | zero=>intro u a;rw[Lib.nDigits_small (by simpa using a)];omega
  | succ k ih =>
   intro u a
   by_cases c:u<10
   ·rw[Lib.nDigits_small c];omega
   ·rw[Lib.nDigits_big c]
    have:=ih (u / 10) (by rw[Nat.pow_succ] at a;omega)
    omega
 exact b 4 u (by omega)
theorem val_lt:∀ (l:List UInt8),(∀ c,c ∈ l->ZS c)->zdJ l<10 ^ l.length:=by
 intro l;have d:∀ m:List UInt8,(∀ c,c ∈ m->ZS c)->zdJ m.reverse<10 ^ m.length:=by
  intro m
  induction m with
  | nil=>intro _;simp[zdJ]
  | cons a r ih =>
   intro h;have:=ih (fun c b=>h c (by simp[b]))
   have e:=h a (by simp)
   unfold ZS at e;rw[List.reverse_cons,zdz,List.length_cons,Nat.pow_succ]
   omega
 intro h;have:=d l.reverse (fun c b=>h c (by simpa using b))
 rw[List.reverse_reverse,List.length_reverse] at this;exact this
noncomputable def zI (s:ByteArray):Int:=by classical exact if h:∃ m:Int,In m 0 99999/\s=qf m then Classical.choose h else -1
theorem zay {m:Int}(h:0<=m):(qf m).data.toList=Lib.decDigits m.toNat:=by
 obtain⟨u,rfl⟩:=Int.eq_ofNat_of_zero_le h;rw[zfg]
 rfl
theorem numT_inj {m n:Int}(b:0<=m)(hn:0<=n)(h:qf m=qf n):m=n:=by
 have a:=congrArg (fun z:ByteArray=>zdJ z.data.toList) h
 rw[zay b,zay hn,zhs,zhs] at a
 omega
theorem qH {m:Int}(h:In m 0 99999):zI (qf m)=m:=by
 have a:∃ k:Int,In k 0 99999/\qf m=qf k:=⟨m,h,rfl⟩;unfold zI;rw[dif_pos a];have:=Classical.choose_spec a;exact(numT_inj h.1 this.1.1 this.2).symm
theorem zdA {s:ByteArray}(h:∀ m:Int,In m 0 99999->s≠qf m):zI s=-1:=by
 unfold zI;rw[dif_neg];rintro⟨m,a,b⟩;exact h m a b
theorem zey {s:ByteArray}{c:UInt8}(h:c ∈ s.data.toList)(a:¬ ZS c):zI s=-1:=zdA fun m b e=>by
 rw[e,zay b.1] at h;exact a (zex _ c h)
theorem zix {s:ByteArray}(h:¬ (1<=s.size/\s.size<=5)):zI s=-1:=zdA fun m a e=>by
 have h1:=dec_len (u:=m.toNat) (by have:=a.1;have:=a.2;omega)
 have h2:s.size=(Lib.decDigits m.toNat).length:=by
  rw[← zay a.1,← e];exact(Array.length_toList).symm
 omega
theorem zgt {s:ByteArray}(h:s.size<=5)(hd:∀ c,c ∈ s.data.toList->ZS c):zdJ s.data.toList<=99999:=by
 have a:=val_lt _ hd;have b:s.data.toList.length=s.size:=Array.length_toList;rw[b] at a;have:(10:Nat) ^ s.size<=10 ^ 5:=Nat.pow_le_pow_right (by decide) h
 omega
theorem zgu {s:ByteArray}(h:s.size<=5)(hd:∀ c,c ∈ s.data.toList->ZS c):zI s=if qf (zdJ s.data.toList:Int)=s then (zdJ s.data.toList:Int) else -1:=by
 have hv:=zgt h hd
 split
 ·rename_i e
  have:=qH (m:=(zdJ s.data.toList:Int)) ⟨by omega,by omega⟩
  rw[e] at this;exact this
 ·rename_i e
  refine zdA fun m b a=>e ?_
  have d:zdJ s.data.toList=m.toNat:=by rw[a,zay b.1,zhs]
  rw[d,a]
  congr 1
  have:=b.1
  omega
/-! ### What is read at a place -/
theorem zez {s:ByteArray}{i:Nat}(h:i<s.size):s.data.toList[i]?=some (s[i]'h):=by
 have hl:i<s.data.toList.length:=by rw[Array.length_toList];exact h
 rw[List.getElem?_eq_getElem hl];simp
 rfl
theorem zhO {s:ByteArray}{i:Nat}(h:i<s.size):s.get! i=s[i]'h:=by
 show s.data[i]!=s.data[i]'h
 exact getElem!_pos s.data i h
theorem zht (s:ByteArray)(i:Nat)(h:i<s.size)(l:128<=(s[i]'h).toNat):i+(Utf8.decode s i).2<=s.size/\∀ j,i<=j->j<i+(Utf8.decode s i).2->∀ b:j<s.size,128<=(s[j]'hj).toNat:=by
 have p:=zhO h;have a:∀ k,(decide (i+k<s.size) && (s.get! (i+k)).toNat / 64 == 2)=true->i+k<s.size/\∀ b:i+k<s.size,128<=(s[i+k]'hj).toNat:=fun k n=>by
  rw[Bool.and_eq_true] at n;have f:=of_decide_eq_true n.1;have d:=n.2;rw[zhO f,beq_iff_eq] at d;exact⟨f,fun b=>by omega⟩
 have e:∀ j,i<=j->j<i+1->∀ b:j<s.size,128<=(s[j]'hj).toNat:=fun j f d b=>by
  obtain rfl:i=j:=by omega
  exact l
 unfold Utf8.decode;dsimp only;rw[if_neg (by rw[Nat.add_zero,p];omega)]
 split
 ·rename_i c
  rw[Bool.and_eq_true] at c;have g:=a 1 c.2
  split
  ·refine⟨by show i+2<=_;omega,fun j f d b=>?_⟩
   have d:j<i+2:=d
   rcases (show j=i∨j=i+1 by omega) with rfl|rfl
   ·exact l
   ·exact g.2 b
  ·exact⟨by show i+1<=_;omega,e⟩
 ·split
  ·rename_i c
   rw[Bool.and_eq_true,Bool.and_eq_true] at c;have g:=a 1 c.1.2;have m:=a 2 c.2
   split
   ·refine⟨by show i+3<=_;omega,fun j f d b=>?_⟩
    have d:j<i+3:=d
    rcases (show j=i∨j=i+1∨j=i+2 by omega) with rfl|rfl|rfl
    ·exact l
    ·exact g.2 b
    ·exact m.2 b
   ·exact⟨by show i+1<=_;omega,e⟩
  ·split
   ·rename_i c
    rw[Bool.and_eq_true,Bool.and_eq_true,Bool.and_eq_true] at c;have g:=a 1 c.1.1.2;have m:=a 2 c.1.2;have o:=a 3 c.2
    split
    ·refine⟨by show i+4<=_;omega,fun j f d b=>?_⟩
     have d:j<i+4:=d
     rcases (show j=i∨j=i+1∨j=i+2∨j=i+3 by omega) with rfl|rfl|rfl|rfl
     ·exact l
     ·exact g.2 b
     ·exact m.2 b
     ·exact o.2 b
    ·exact⟨by show i+1<=_;omega,e⟩
   ·exact⟨by show i+1<=_;omega,e⟩
/-! ### Cut in two -/
def zgv (p:UInt8)(s a b:ByteArray)(f:Bool):Prop:=p∉a.data.toList/\((f=true/\s.data.toList=a.data.toList++p :: b.data.toList)∨(f=false/\a=s/\b=⟨#[]⟩))
theorem cut_one {p:UInt8}{s a b d b':ByteArray}{f e:Bool}(h:zgv p s a b f)(k:zgv p s d b' e):a=d/\b=b'/\f=e:=by
 obtain⟨g,c⟩:=h;obtain⟨i,k1⟩:=k
 rcases c with⟨rfl,c⟩|⟨rfl,rfl,rfl⟩
 ·rcases k1 with⟨rfl,k1⟩|⟨rfl,rfl,rfl⟩
  ·obtain⟨j,l⟩:=zfr g i (c.symm.trans k1)
   exact⟨zda j,zda l,rfl⟩
  ·exact absurd (by rw[c];simp) i
 ·rcases k1 with⟨rfl,k1⟩|⟨rfl,rfl,rfl⟩
  ·exact absurd (by rw[k1];simp) g
  ·exact⟨rfl,rfl,rfl⟩
theorem ZO (s:ByteArray)(w:World)(L:Ze w) :
  Calls Tryz.prog 55 #[.string s] w fun e w'=>e=.returned (int i64 (zI s))/\Below w.heap.size w w':=by
 by_cases h5:s.size<=5
 case neg =>
  have N:decide (5<s.size)=true:=decide_eq_true (by omega)
  have l:Hid (-1=zI s):=(zix (by omega)).symm
  go_enter Tryz.func55,Tryz.ntmps55;go_wp2;go_ret;exact⟨congrArg (fun z=>Ending.returned (Value.int .i64 z)) l.out,bZ⟩
 have N:decide (5<s.size)=false:=decide_eq_false (by omega)
 have I:=hI L;have hl:s.data.toList.length=s.size:=Array.length_toList;have y:(w.iter s 0).heap[w.heap.size]?=some (.stringIter s 0):=World.iter_heap w s 0;have x:Below w.heap.size w (w.iter s 0):=zr bZ _;clear L;go_enter Tryz.func55,Tryz.ntmps55;go_wp2;go_loopw [3,5] (fun v _ g=>∃ a:Nat,a<=s.size/\g.heap[w.heap.size]?=some (.stringIter s a)/\v=int i64 (zdJ (s.data.toList.take a):Int)/\Hid (∀ c,c ∈ s.data.toList.take a->ZS c)/\Below w.heap.size w g)
  (fun _ _ g=>s.size - g.iterPos w.heap.size)
 case atStart=>exact⟨0,Nat.zero_le _,y,rfl,fun c j=>by simp at j,x⟩
 case round =>
  obtain⟨a,Q,o,rfl,n,d⟩:=hrel;clear y x;have G:g.iterPos w.heap.size=a:=by simp[World.iterPos,o]
  by_cases hp:a<s.size
  ·have f:s[a]'hp ∈ s.data.toList:=List.mem_of_getElem? (zez hp)
   by_cases h128:(s[a]'hp).toNat<128
   ·have b:∀ k,(Instr.next (.pointer (some ⟨w.heap.size,0,none⟩)) true k).run Tryz.prog g=_:=fun k=>Lib.run_next_ascii_at g w.heap.size s a k o hp h128
    have m:=Lib.iterAt_heap g w.heap.size s a (a+1) o;have i:Below w.heap.size w (g.iterAt w.heap.size s (a+1)):=Lib.below_iterAt d (Nat.le_refl _) s (a+1);generalize g.iterAt w.heap.size s (a+1)=J at b m i
    by_cases hd:ZS (s[a]'hp)
    ·have C:Hid (∀ c,c ∈ s.data.toList.take (a+1)->ZS c):=fun c j=>by
      rw[List.take_add_one,zez hp] at j
      rcases List.mem_append.1 j with j|j
      ·exact n.out c j
      ·simp at j;rw[j];exact hd
     have B:zdJ (s.data.toList.take (a+1))=10*zdJ (s.data.toList.take a)+((s[a]'hp).toNat - 48):=by
      rw[List.take_add_one,zez hp];exact zdz _ _
     have H:zdJ (s.data.toList.take a)<100000:=by
      have h1:=val_lt _ n.out;have P:(s.data.toList.take a).length<=5:=by rw[List.length_take];omega
      have:(10:Nat) ^ (s.data.toList.take a).length<=10 ^ 5:=Nat.pow_le_pow_right (by decide) P
      omega
     have E:=hI B;unfold ZS at hd;generalize j:(s[a]'hp).toNat=c at hd b E h128;generalize zdJ (s.data.toList.take a)=V at H E ⊢;have F:decide ((c:Int)<48)=false:=decide_eq_false (by omega)
     have K:decide ((57:Int)<(c:Int))=false:=decide_eq_false (by omega)
     have p:decide (c<48)=false:=decide_eq_false (by omega)
     have t:decide (57<c)=false:=decide_eq_false (by omega)
     have w1:IntKind.i64.wrap (10*(V:Int))=10*(V:Int):=by rw[IntKind.wrap_i64];omega
     have w2:IntKind.i32.wrap ((c:Int) - 48)=(c:Int) - 48:=by unfold IntKind.wrap;simp[IntKind.bits,IntKind.signed];omega
     have M:IntKind.i64.wrap ((c:Int) - 48)=(c:Int) - 48:=by rw[IntKind.wrap_i64];omega
     have w4:IntKind.i64.wrap (10*(V:Int)+((c:Int) - 48))=10*(V:Int)+((c:Int) - 48):=by rw[IntKind.wrap_i64];omega
     clear f j o d n B;go_wp2;go_roundw
     case rel=>exact⟨a+1,by omega,m,by rw[E.out];congr 1;omega,C,i⟩
     case measure =>
      have A:J.iterPos w.heap.size=a+1:=by simp[World.iterPos,m]
      rw[G,A]
      omega
    ·have l:=hI ((zey f hd).symm)
     unfold ZS at hd;generalize j:(s[a]'hp).toNat=c at hd b h128;generalize zdJ (s.data.toList.take a)=V;clear f j o n m
     by_cases h48:c<48
     ·have F:decide ((c:Int)<48)=true:=decide_eq_true (by omega)
      have p:decide (c<48)=true:=decide_eq_true h48;go_wp2;go_ret;exact⟨congrArg (fun z=>Ending.returned (Value.int .i64 z)) l.out,i⟩
     ·have F:decide ((c:Int)<48)=false:=decide_eq_false (by omega)
      have p:decide (c<48)=false:=decide_eq_false h48;have K:decide ((57:Int)<(c:Int))=true:=decide_eq_true (by omega)
      have t:decide (57<c)=true:=decide_eq_true (by omega)
      go_wp2;go_ret;exact⟨congrArg (fun z=>Ending.returned (Value.int .i64 z)) l.out,i⟩
   ·have b:∀ k,(Instr.next (.pointer (some ⟨w.heap.size,0,none⟩)) true k).run Tryz.prog g=_:=fun k=>Lib.run_next_any_at g w.heap.size s a k o hp
    have i:Below w.heap.size w (g.iterAt w.heap.size s (a+(Utf8.decode s a).2)):=Lib.below_iterAt d (Nat.le_refl _) s _;generalize g.iterAt w.heap.size s (a+(Utf8.decode s a).2)=J at b i;have l:Hid (-1=zI s):=(zey f (fun h=>by unfold ZS at h;omega)).symm
    have R:=(decode_high s a hp (by omega)).1
    generalize (Utf8.decode s a).1=c at R b;generalize zdJ (s.data.toList.take a)=V;clear f o n;have F:decide ((c:Int)<48)=false:=decide_eq_false (by omega)
    have p:decide (c<48)=false:=decide_eq_false (by omega)
    have K:decide ((57:Int)<(c:Int))=true:=decide_eq_true (by omega)
    have t:decide (57<c)=true:=decide_eq_true (by omega)
    go_wp2;go_ret;exact⟨congrArg (fun z=>Ending.returned (Value.int .i64 z)) l.out,i⟩
  ·have b:∀ k,(Instr.next (.pointer (some ⟨w.heap.size,0,none⟩)) true k).run Tryz.prog g=_:=fun k=>Lib.run_next_end_at g w.heap.size s a k o hp
   have u:s.data.toList.take a=s.data.toList:=List.take_of_length_le (by omega)
   rw[u] at n ⊢;have B:=zgt h5 n.out;have l:=zgu h5 n.out;generalize zdJ s.data.toList=V at B l ⊢;have r:=hI l;clear l
   by_cases he:qf (V:Int)=s
   ·have O:((qf (V:Int)).toList == s.toList)=true:=Q4.2 he
    have D:Hid ((V:Int)=zI s):=by rw[r.out,if_pos he];exact rfl
    clear he;go_wp2_with fail;refine(Z3 (V:Int) (by omega) (by omega) _ (I.out.below d)).mono ?_
    rintro e M ⟨rfl,q⟩;go_wp2;go_ret;exact⟨congrArg (fun z=>Ending.returned (Value.int .i64 z)) D.out,zj d q⟩
   ·have O:((qf (V:Int)).toList == s.toList)=false:=zaz.2 he
    have D:Hid (-1=zI s):=by rw[r.out,if_neg he];exact rfl
    clear he;go_wp2_with fail;refine(Z3 (V:Int) (by omega) (by omega) _ (I.out.below d)).mono ?_
    rintro e M ⟨rfl,q⟩;go_wp2;go_ret;exact⟨congrArg (fun z=>Ending.returned (Value.int .i64 z)) D.out,zj d q⟩
section
open Go.Shelf
shelf_lay Lays.n118 Nm 118 at Tryz as Tryz.lays118
end Go.Proofs
namespace Go.Proofs.YtfallpinmhbemaaGreatDoor
open Go.RowKit
theorem zhu (p:UInt8):zbZ p [] [[]]:=⟨by simp,rfl,fun q a=>by simp at a;rw[a];simp⟩
theorem ziy {p:UInt8}{x q t:List UInt8}{l:List (List UInt8)}(h:zbZ p x (l++[q]))(b:p∉t):zbZ p (x++t) (l++[q++t]):=by
 refine⟨by simp,?_,fun r a=>?_⟩
 ·rw[← h.2.1]
  by_cases c:l=[]
  ·subst c
   simp[Lib.join_one]
  ·rw[zbT _ _ _ c,zbT _ _ _ c]
   simp
 ·rcases List.mem_append.1 a with a|a
  ·exact h.2.2 r (by simp[a])
  ·simp at a
   rw[a];have:=h.2.2 q (by simp)
   simp[this,b]
theorem parts_sep {p:UInt8}{x q:List UInt8}{l:List (List UInt8)}(h:zbZ p x (l++[q])):zbZ p (x++[p]) ((l++[q])++[[]]):=by
 refine⟨by simp,?_,fun r a=>?_⟩
 ·rw[zbT _ _ _ (by simp),h.2.1]
  simp
 ·rcases List.mem_append.1 a with a|a
  ·exact h.2.2 r a
  ·simp at a
   rw[a];simp
theorem zdc (s:ByteArray)(a b:Nat):(s.extract a b).data.toList=(s.data.toList.drop a).take (b - a):=by
 simp
def zca (p:UInt8)(s:ByteArray)(a st:Nat)(l:List ByteArray):Prop:=st<=a/\a<=s.size/\l.length<=a/\zbZ p (s.data.toList.take a) (l.map (·.data.toList)++[(s.data.toList.drop st).take (a - st)])
theorem zca.start (p:UInt8)(s:ByteArray):zca p s 0 0 []:=⟨Nat.le_refl _,Nat.zero_le _,Nat.le_refl _,by simpa using zhu p⟩
theorem zca.skip {p:UInt8}{s:ByteArray}{f e st:Nat}{l:List ByteArray}(h:zca p s f st l)(h1:f<=e)(o:e<=s.size)(hn:∀ j,f<=j->j<e->∀ k:j<s.size,s[j]'hj≠p):zca p s e st l:=by
 obtain⟨a,b,c,d⟩:=h;refine⟨by omega,o,by omega,?_⟩
 have hl:s.data.toList.length=s.size:=Array.length_toList;have m:s.data.toList.take e=s.data.toList.take f++(s.data.toList.drop f).take (e - f):=by
  rw[show e=f+(e - f) by omega,List.take_add]
  simp
 have n:(s.data.toList.drop st).take (e - st)=(s.data.toList.drop st).take (f - st)++(s.data.toList.drop f).take (e - f):=by
  rw[show e - st=(f - st)+(e - f) by omega,List.take_add,List.drop_drop,show st+(f - st)=f by omega]
 rw[m,n];refine ziy d ?_;intro q;obtain⟨i,g⟩:=List.mem_iff_getElem?.1 q;rw[List.getElem?_take] at g
 split at g
 ·rename_i hlt
  rw[List.getElem?_drop] at g;have k:f+i<s.size:=by omega
  rw[zez k] at g;exact hn (f+i) (by omega) (by omega) k (by simpa using g)
 ·cases g
theorem zca.sep {p:UInt8}{s:ByteArray}{e st:Nat}{l:List ByteArray}(h:zca p s e st l)(g:e<s.size)(f:s[e]'hp=p):zca p s (e+1) (e+1) (l++[s.extract st e]):=by
 obtain⟨a,b,c,d⟩:=h;refine⟨Nat.le_refl _,by omega,by rw[List.length_append,List.length_singleton];omega,?_⟩
 have:=parts_sep d;rw[List.map_append,List.map_cons,List.map_nil,zdc,List.take_add_one,zez g,f]
 simpa using this
theorem zca.done {p:UInt8}{s:ByteArray}{st:Nat}{l:List ByteArray}(h:zca p s s.size st l):Q2 p s (l++[s.extract st s.size]):=by
 obtain⟨a,b,c,d⟩:=h;have hl:s.data.toList.length=s.size:=Array.length_toList;rw[← zdc,List.take_of_length_le (by omega)] at d
 refine⟨by simp,?_,fun q e=>?_⟩
 ·apply zda
  unfold qD oneT;have:=d.2.1
  simpa using this
 ·refine d.2.2 _ ?_
  rcases List.mem_append.1 e with e|e
  ·exact List.mem_append.2 (.inl (List.mem_map.2 ⟨q,e,rfl⟩))
  ·simp at e
   rw[e];simp
theorem zgw (w:World)(k:Nat)(s:ByteArray)(a:Nat):zA w (w.iterAt k s a) (fun b=>b=k):=⟨rfl,rfl,rfl,by rw[Lib.iterAt_size];exact Nat.le_refl _,fun i _ hn=>Lib.iterAt_other w k i s a hn⟩
theorem zbl {w:World}{base e size n k c:Nat}{v:Value}{i:List Value}{s:ByteArray}(h:w.ownsRow base e size v n i)(f:w.heap[k]?=some (.stringIter s c)):∀ g,v.ownBlock=some g->¬ g=k:=by
 rintro g a rfl
 rcases h.2 with⟨rfl,_⟩|⟨g',d,cur,rfl,_,b,_⟩
 ·simp[Value.ownBlock] at a
 ·simp only[Value.ownBlock,Option.some.injEq] at a
  subst a;rw[b] at f
  cases f
theorem zaO (s:ByteArray)(p:UInt8)(w:World)(hp:p.toNat<128)(hs:s.size<=1048576) :
  Calls Tryz.prog 57 #[.string s,.int .i32 p.toNat] w fun e w'=>∃ v l,e=.returned v/\zcZ w' w.heap.size v l/\Hid (Q2 p s l/\l.length<=s.size+1)/\Below w.heap.size w w':=by
 obtain⟨j0,ji,R,S,T⟩:=info_parts Tryz.infoText;have M:(w.iter s 0).heap[w.heap.size]?=some (.stringIter s 0):=World.iter_heap w s 0;have K:Below w.heap.size w (w.iter s 0):=zr bZ _;have X:Hid (∀ W:World,Calls Tryz.prog 94 #[.int .i32 p.toNat] W fun e w'=>e=.returned (int i64 1)/\w'=W):=fun W=>by
  have h:=Any.utf8_RuneLen Tryz.lays118 (p.toNat:Int) W;rw[show Lib.runeLen (p.toNat:Int)=1 from by unfold Lib.runeLen;rw[if_neg (by omega),if_pos (by omega)]] at h
  exact h
 go_enter Tryz.func57,Tryz.ntmps57;go_wp2;go_loopw [5,6,7,8] (fun v vs _ _ f=>∃ (a st:Nat) (l:List ByteArray),vs=int i64 st/\f.heap[w.heap.size]?=some (.stringIter s a)/\Hid (zca p s a st l)/\Hid (zcZ f w.heap.size v l)/\Below w.heap.size w f)
  (fun _ _ _ _ f=>s.size - f.iterPos w.heap.size)
 case atStart=>exact⟨0,0,[],rfl,M,zca.start p s,World.ownsRow_nil _ _ _ _,K⟩
 case round =>
  obtain⟨a,st,l,rfl,r,D,B,g⟩:=hrel;clear M K;have C:f.iterPos w.heap.size=a:=by simp[World.iterPos,r]
  obtain⟨la,lc,rfl,_⟩:=zt B.out;have a2:=D.out.1;have a1:=D.out.2.1;have a0:=D.out.2.2.1
  by_cases hlt:a<s.size
  ·by_cases h128:(s[a]'hlt).toNat<128
   ·have b:∀ A,(Instr.next (.pointer (some ⟨w.heap.size,0,none⟩)) true A).run Tryz.prog f=_:=fun A=>Lib.run_next_ascii_at f w.heap.size s a A r hlt h128
    have i:=Lib.iterAt_heap f w.heap.size s a (a+1) r;have o:Below w.heap.size w (f.iterAt w.heap.size s (a+1)):=Lib.below_iterAt g (Nat.le_refl _) s (a+1);have m:Hid (zcZ (f.iterAt w.heap.size s (a+1)) w.heap.size (.slice la l.length lc) l):=(zgw f w.heap.size s (a+1)).own B.out (zbl B.out r);generalize f.iterAt w.heap.size s (a+1)=F at b i o m
    by_cases he:s[a]'hlt=p
    ·have t:=hI (D.out.sep hlt he)
     rw[he] at b;have ep:((p.toNat:Int) == (p.toNat:Int))=true:=by simp
     have a3:IntKind.i64.wrap ((a:Int)+1)=((a+1:Nat):Int):=by rw[IntKind.wrap_i64];omega
     have i1:(0:Int)<=(st:Int):=by omega
     have i2:(st:Int)<=(a:Int):=by omega
     have i3:(a:Int)<=(s.size:Int):=by omega
     have n:Hid (zcZ (F.alloc (.cells #[.string (s.extract st a)] 9)) w.heap.size (.slice la l.length lc) l):=zm (zr bZ _) m.out;have x:Below w.heap.size w (F.alloc (.cells #[.string (s.extract st a)] 9)):=zr o _;have N:=ze i (.cells #[.string (s.extract st a)] 9);have z:=x.size;clear r g B he;go_wp2_with (first|(go_at_call 94;(with_reducible refine Calls.mono (X.out _) ?_);rintro e w3 ⟨rfl,I⟩;have I:=I.symm;subst I)|(at_builtin;refine zz _ (by rfl) (.tmp 18) (.tmp 23) 46 (by rfl) w.heap.size 9 j0 (.string ⟨#[]⟩) 1 16 Tryz.underlying46 ji R S T rfl (by decide) _ l.length (l.map Value.string) (by rfl) n.out (some ⟨F.heap.size,0,none⟩) 1 1 [.string (s.extract st a)] (by rfl) (fun h=>by cases h) (by rfl) (fun ad h=>by cases h;exact World.news_of_block (heap_alloc_new F _)) (by intro u Q;simp only[List.mem_cons,List.not_mem_nil,or_false] at Q;subst Q;rfl) (by unfold maxLen;omega) (by omega) z ?_;intro Z U y q;have O:=(zO q).blk N (fun e=>zbl n.out N _ e rfl);have G:=x.grown q z (fun j J=>(World.ownsRow.lt n.out j J).1);have E:Hid (zcZ U w.heap.size Z (l++[s.extract st a])):=(by unfold zcZ;rw[List.length_append,List.map_append];exact y);clear y q))
     go_roundw
     case rel=>exact⟨a+1,a+1,_,by go_num,O,t,E,G⟩
     case measure =>
      have k:U.iterPos w.heap.size=a+1:=by simp[World.iterPos,O]
      rw[C,k]
      omega
    ·have t:Hid (zca p s (a+1) st l):=D.out.skip (by omega) (by omega) (fun j h1 h2 J=>by
      obtain rfl:a=j:=by omega
      exact he)
     have Y:(s[a]'hlt).toNat≠p.toNat:=fun e=>he (UInt8.toNat_inj.1 e)
     have P:(((s[a]'hlt).toNat:Int) == (p.toNat:Int))=false:=by rw[beq_eq_false_iff_ne];omega
     clear r g B he;go_wp2;go_roundw
     case rel=>exact⟨a+1,st,l,rfl,i,t,m,o⟩
     case measure =>
      have k:F.iterPos w.heap.size=a+1:=by simp[World.iterPos,i]
      rw[C,k]
      omega
   ·have H:=zht s a hlt (by omega)
    have L:=decode_high s a hlt (by omega)
    have b:∀ A,(Instr.next (.pointer (some ⟨w.heap.size,0,none⟩)) true A).run Tryz.prog f=_:=fun A=>Lib.run_next_any_at f w.heap.size s a A r hlt
    generalize (Utf8.decode s a).2=d at H L b;have i:=Lib.iterAt_heap f w.heap.size s a (a+d) r;have o:Below w.heap.size w (f.iterAt w.heap.size s (a+d)):=Lib.below_iterAt g (Nat.le_refl _) s (a+d);have m:Hid (zcZ (f.iterAt w.heap.size s (a+d)) w.heap.size (.slice la l.length lc) l):=(zgw f w.heap.size s (a+d)).own B.out (zbl B.out r);generalize f.iterAt w.heap.size s (a+d)=F at b i o m;have t:Hid (zca p s (a+d) st l):=D.out.skip (by omega) H.1 (fun j h1 h2 J e=>by
     have:=H.2 j h1 h2 J;rw[e] at this
     omega)
    generalize (Utf8.decode s a).1=c at L b;have P:((c:Int) == (p.toNat:Int))=false:=by rw[beq_eq_false_iff_ne];omega
    have Y:c≠p.toNat:=by omega
    clear r g B;go_wp2;go_roundw
    case rel=>exact⟨a+d,st,l,rfl,i,t,m,o⟩
    case measure =>
     have k:F.iterPos w.heap.size=a+d:=by simp[World.iterPos,i]
     rw[C,k]
     omega
  ·obtain rfl:a=s.size:=by omega
   have b:∀ A,(Instr.next (.pointer (some ⟨w.heap.size,0,none⟩)) true A).run Tryz.prog f=_:=fun A=>Lib.run_next_end_at f w.heap.size s s.size A r hlt
   have V:Hid (Q2 p s (l++[s.extract st s.size])/\(l++[s.extract st s.size]).length<=s.size+1):=⟨D.out.done,by rw[List.length_append,List.length_singleton];omega⟩
   have n:Hid (zcZ (f.alloc (.cells #[.string (s.extract st s.size)] 9)) w.heap.size (.slice la l.length lc) l):=zm (zr bZ _) B.out;have x:Below w.heap.size w (f.alloc (.cells #[.string (s.extract st s.size)] 9)):=zr g _;have z:=x.size;have i1:(0:Int)<=(st:Int):=by omega
   have i2:(st:Int)<=(s.size:Int):=by omega
   clear r B C;go_wp2_with (first|(at_builtin;refine zz _ (by rfl) (.tmp 29) (.tmp 33) 46 (by rfl) w.heap.size 9 j0 (.string ⟨#[]⟩) 1 16 Tryz.underlying46 ji R S T rfl (by decide) _ l.length (l.map Value.string) (by rfl) n.out (some ⟨f.heap.size,0,none⟩) 1 1 [.string (s.extract st s.size)] (by rfl) (fun h=>by cases h) (by rfl) (fun ad h=>by cases h;exact World.news_of_block (heap_alloc_new f _)) (by intro u Q;simp only[List.mem_cons,List.not_mem_nil,or_false] at Q;subst Q;rfl) (by unfold maxLen;omega) (by omega) z ?_;intro Z U y q;have G:=x.grown q z (fun j J=>(World.ownsRow.lt n.out j J).1);have E:Hid (zcZ U w.heap.size Z (l++[s.extract st s.size])):=(by unfold zcZ;rw[List.length_append,List.map_append];exact y);clear y q))
   go_ret;exact⟨_,_,rfl,E.out,V.out,G⟩
end
end Go.Proofs.YtfallpinmhbemaaGreatDoor

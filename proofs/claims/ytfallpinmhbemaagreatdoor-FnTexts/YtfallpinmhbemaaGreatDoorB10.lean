/-
  OWN TEXT: SpecOld, SpecOwA, SpecIn, SpecIn3, SpecName.
-/
import Derived.Deep.RegionHeld3
import Derived.Deep.DeepCutAuto
import Derived.Deep.RegionLawGrows
import Derived.Deep.AppendLies
import Derived.Great.Walk
import Derived.Laws.Tables
import Derived.Test.YtfallpinmhbemaaGreatDoorRows
import Derived.Deep.LoopGhost
import Derived.Test.YtfallpinmhbemaaGreatDoorB08
import Derived.Test.YtfallpinmhbemaaGreatDoorB09
namespace Go.Proofs.YtfallpinmhbemaaGreatDoor
open Go.RowKit
open Go.Value (int)
open Go.IntKind (i64)
set_option maxHeartbeats 64000000
set_option maxRecDepth 100000
theorem zcC (w:World)(o p:Obj):((w.alloc o).alloc p).heap[w.heap.size+1]?=some p:=by simpa using heap_alloc_new (w.alloc o) p
theorem qY (w:World)(o:Obj)(b:Nat)(h:b=w.heap.size):(w.alloc o).heap[b]?=some o:=by rw[h];exact heap_alloc_new w o
theorem zbI {w:World}{g t:Nat}{u0 u1 u2:Value}(h:w.heap[g]?=some (.cells #[u0,u1,u2] t (0,0)))(a b c:Value):(((w.setCell ⟨g,0,none⟩ a).setCell ⟨g,1,none⟩ b).setCell ⟨g,2,none⟩ c).heap[g]?=some (.cells #[a,b,c] t (0,0)):=by
 simpa using zy (zy (zy h 0 a) 1 b) 2 c
theorem zfK (w:World)(g:Nat)(c d e:Value):zA w (((w.setCell ⟨g,0,none⟩ c).setCell ⟨g,1,none⟩ d).setCell ⟨g,2,none⟩ e) (fun b=>b=g):=(((zA.refl w (fun b=>b=g)).set (a:=⟨g,0,none⟩) rfl c).set (a:=⟨g,1,none⟩) rfl d).set (a:=⟨g,2,none⟩) rfl e
theorem zeF (l m n:Option Addr)(u y A:Nat)(x:qT)(w:World)(hs:qT.Short x 1048576)(o:Zv w l x.stn x.st)(h2:Zm w m x.ron x.ro)(h3:ZI w n x.sen x.se)(s1:SliceOk l x.stn u)(s2:SliceOk m x.ron y)(s3:SliceOk n x.sen A) :
  Calls Tryz.prog 111 #[.agg #[.slice l x.stn u,.slice m x.ron y,.slice n x.sen A]] w fun e w'=>(∃ p q r,e=.returned (.agg #[p,q,r])/\w'.ownsRow w.heap.size 186 4 p x.stn (zX x.st x.stn)/\w'.ownsRow w.heap.size 190 4 q x.ron (zQ x.ro x.ron)/\w'.ownsRow w.heap.size 138 2 r x.sen (zW x.se x.sen))/\Below w.heap.size w w':=by
 obtain⟨i0,ii,a7,a8,a9⟩:=info_parts Tryz.infoStay;obtain⟨j0,ji,b0,b5,b6⟩:=info_parts Tryz.infoRoom;obtain⟨k0,ki,b7,b8,b9⟩:=info_parts Tryz.infoSeat;obtain⟨b1,b2,b3⟩:=hs;have a0:=hI s1.2.2;have a5:=hI s2.2.2;have a6:=hI s3.2.2;have S:Hid (Zv w l x.stn x.st/\Zm w m x.ron x.ro/\ZI w n x.sen x.se):=⟨o,h2,h3⟩;clear o h2 h3 s1 s2 s3;have s:Below w.heap.size w ((w.alloc (.cells #[.slice l x.stn u,.slice m x.ron y,.slice n x.sen A] 136)).alloc (.cells #[.slice none 0 0,.slice none 0 0,.slice none 0 0] 136)):=zr (zr bZ _) _;have I:((w.alloc (.cells #[.slice l x.stn u,.slice m x.ron y,.slice n x.sen A] 136)).alloc (.cells #[.slice none 0 0,.slice none 0 0,.slice none 0 0] 136)).heap[w.heap.size]?=some (.cells #[.slice l x.stn u,.slice m x.ron y,.slice n x.sen A] 136 (0,0)):=ze (heap_alloc_new w _) _;have T:=zcC w (.cells #[.slice l x.stn u,.slice m x.ron y,.slice n x.sen A] 136) (.cells #[.slice none 0 0,.slice none 0 0,.slice none 0 0] 136);go_enter Tryz.func111,Tryz.ntmps111;go_upto_region 1 with fail;generalize (w.alloc (.cells #[.slice l x.stn u,.slice m x.ron y,.slice n x.sen A] 136)).alloc (.cells #[.slice none 0 0,.slice none 0 0,.slice none 0 0] 136)=X at s I T ⊢;have hX:w.heap.size+1<X.heap.size:=zZ T;have W:Hid (∀ w',Below X.heap.size X w'->Zv w' l x.stn x.st):=fun w' h=>S.out.1.below (zj s h)
 have Y:Hid (∀ w',Below X.heap.size X w'->Zm w' m x.ron x.ro):=fun w' h=>S.out.2.1.below (zj s h)
 have Z:Hid (∀ w',Below X.heap.size X w'->ZI w' n x.sen x.se):=fun w' h=>S.out.2.2.below (zj s h)
 have KS:Hid (∀ w',Below X.heap.size X w'->w'.cell? ⟨w.heap.size,0,none⟩=some (.slice l x.stn u)/\w'.cell? ⟨w.heap.size,1,none⟩=some (.slice m x.ron y)/\w'.cell? ⟨w.heap.size,2,none⟩=some (.slice n x.sen A)):=fun w' h=>⟨za (zc I h) 0 _ rfl,za (zc I h) 1 _ rfl,za (zc I h) 2 _ rfl⟩
 have KT:Hid (∀ z,Below X.heap.size X z->∀ p q r Q,Q=((z.setCell ⟨w.heap.size+1,0,none⟩ p).setCell ⟨w.heap.size+1,1,none⟩ q).setCell ⟨w.heap.size+1,2,none⟩ r->Q.cell? ⟨w.heap.size,0,none⟩=some (.slice l x.stn u)/\Q.cell? ⟨w.heap.size,1,none⟩=some (.slice m x.ron y)/\Q.cell? ⟨w.heap.size,2,none⟩=some (.slice n x.sen A)):=fun z V p q r Q e=>by
  subst e;have b:=(zfK z (w.heap.size+1) p q r).blk (zc I V) (by show ¬ _=_;omega)
  exact⟨za b 0 _ rfl,za b 1 _ rfl,za b 2 _ rfl⟩
 have R:Hid (∀ w',Below X.heap.size X w'->w'.heap[w.heap.size+1]?=some (.cells #[.slice none 0 0,.slice none 0 0,.slice none 0 0] 136 (0,0))):=fun w' h=>zc T h
 have f:=hI s;obtain⟨x0,x1,x2⟩:=KS.out X bZ;have t:Hid (∀ z,Below X.heap.size X z->∀ p q r,z.ownsRow X.heap.size 186 4 p x.stn (zX x.st x.stn)->z.ownsRow X.heap.size 190 4 q x.ron (zQ x.ro x.ron)->z.ownsRow X.heap.size 138 2 r x.sen (zW x.se x.sen)->∀ E,E=((z.setCell ⟨w.heap.size+1,0,none⟩ p).setCell ⟨w.heap.size+1,1,none⟩ q).setCell ⟨w.heap.size+1,2,none⟩ r ->
   E.heap[w.heap.size+1]?=some (.cells #[p,q,r] 136 (0,0))/\(E.ownsRow w.heap.size 186 4 p x.stn (zX x.st x.stn)/\E.ownsRow w.heap.size 190 4 q x.ron (zQ x.ro x.ron)/\E.ownsRow w.heap.size 138 2 r x.sen (zW x.se x.sen))/\Below w.heap.size w E):=fun z V p q r o1 o2 o3 E e=>by
  subst e;have U:=zfK z (w.heap.size+1) p q r;have b:=R.out z V;have hB:=zj f.out V;exact⟨zbI b p q r,⟨U.own (zE o1 f.out.size) (qR (zE o1 f.out.size) b (by decide)),U.own (zE o2 f.out.size) (qR (zE o2 f.out.size) b (by decide)),U.own (zE o3 f.out.size) (qR (zE o3 f.out.size) b (by decide))⟩,zA.below hB hB.size U (fun k e=>by have e:k=w.heap.size+1:=e;omega)⟩
 clear I T s S;go_region_held3 (fun w'=>w'.cell? ⟨w.heap.size,0,none⟩=some (.slice l x.stn u)/\w'.cell? ⟨w.heap.size,1,none⟩=some (.slice m x.ron y)/\w'.cell? ⟨w.heap.size,2,none⟩=some (.slice n x.sen A))
  (first|(with_reducible exact KT.out u3 j.out _ _ _ _ rfl)|(with_reducible exact KT.out u2 i.out _ _ _ _ rfl)|(with_reducible exact KT.out u1 g.out _ _ _ _ rfl)|(refine KS.out _ ?_;exact(by repeat(first|exact bZ|refine Below.drew ?_|refine zr ?_ _|refine zj ?_ (zl a)|refine zj ?_ (zl c)|refine zj ?_ (zl d)))))
  (first
   | (refine zN (by rfl) (.tmp 11) (.tmp 13) 132 (by rfl) 138 k0 (.agg #[int i64 0,int i64 0]) 2 16 Tryz.underlying132 ki b7 b8 b9 rfl (by decide) X.heap.size _ (by rfl) (by first | exact Nat.le_refl _ | omega | (simp;done) | (simp;omega) | (have o:=g.out.size;simp;omega) | (have o:=g.out.size;omega) | (have o:=i.out.size;simp;omega) | (have o:=i.out.size;omega)) (by repeat(first | ((with_reducible refine qY _ _ _ ?_);(first | rfl | (simp;done))) | with_reducible refine zF ?_ | with_reducible refine ze ?_ _ | with_reducible refine zc ?_ (zl a) | with_reducible refine zc ?_ (zl c))) n x.sen A (zW x.se x.sen) (by rfl) a6.out (Qk _ _) (zaB (Z.out _ (by repeat(first | exact bZ | refine Below.drew ?_ | refine zr ?_ _ | refine zj ?_ (zl a) | refine zj ?_ (zl c) | refine zj ?_ (zl d))))) (Q7 _ _) (by unfold maxLen;omega) (by omega) ?_;intro p3 q3 u3 d D P;clear P;have j:Hid (Below X.heap.size X u3):=(by repeat(first | exact bZ | refine Below.drew ?_ | refine zr ?_ _ | refine zj ?_ (zl a) | refine zj ?_ (zl c) | refine zj ?_ (zl d)));have H:=R.out u3 j.out;have y0:=za H 0 _ rfl;have y1:=za H 1 _ rfl;have y2:=za H 2 _ rfl;have f0:=zg H 0;have f1:=zg H 1;have f2:=zg H 2;clear H;have M:=hI D;(first | (refine(fun (K:Hid (u3.ownsRow X.heap.size 186 4 (.slice p1 x.stn q1) x.stn (zX x.st x.stn)))=>?_) (zm (w:=u1) ?_ B);rotate_left;(focus(repeat(first | exact bZ | refine Below.drew ?_ | refine zr ?_ _ | refine zj ?_ (zl d) | refine zj ?_ (zl c))))) | skip);(first | (refine(fun (L:Hid (u3.ownsRow X.heap.size 190 4 (.slice p2 x.ron q2) x.ron (zQ x.ro x.ron)))=>?_) (zm (w:=u2) ?_ C);rotate_left;(focus(repeat(first | exact bZ | refine Below.drew ?_ | refine zr ?_ _ | refine zj ?_ (zl d) | refine zj ?_ (zl a))))) | skip))
   | (refine zN (by rfl) (.tmp 7) (.tmp 9) 134 (by rfl) 190 j0 (.agg #[int i64 0,int i64 0,int i64 0,.bool false]) 4 32 Tryz.underlying134 ji b0 b5 b6 rfl (by decide) X.heap.size _ (by rfl) (by first | exact Nat.le_refl _ | omega | (simp;done) | (simp;omega) | (have o:=g.out.size;simp;omega) | (have o:=g.out.size;omega) | (have o:=j.out.size;simp;omega) | (have o:=j.out.size;omega)) (by repeat(first | ((with_reducible refine qY _ _ _ ?_);(first | rfl | (simp;done))) | with_reducible refine zF ?_ | with_reducible refine ze ?_ _ | with_reducible refine zc ?_ (zl a) | with_reducible refine zc ?_ (zl d))) m x.ron y (zQ x.ro x.ron) (by rfl) a5.out (Zi _ _) (Z6 (Y.out _ (by repeat(first | exact bZ | refine Below.drew ?_ | refine zr ?_ _ | refine zj ?_ (zl a) | refine zj ?_ (zl c) | refine zj ?_ (zl d))))) (ZL _ _) (by unfold maxLen;omega) (by omega) ?_;intro p2 q2 u2 c C O;clear O;have i:Hid (Below X.heap.size X u2):=(by repeat(first | exact bZ | refine Below.drew ?_ | refine zr ?_ _ | refine zj ?_ (zl a) | refine zj ?_ (zl c) | refine zj ?_ (zl d)));have G:=R.out u2 i.out;have y0:=za G 0 _ rfl;have y1:=za G 1 _ rfl;have y2:=za G 2 _ rfl;have f0:=zg G 0;have f1:=zg G 1;have f2:=zg G 2;clear G;have L:=hI C;(first | (refine(fun (K:Hid (u2.ownsRow X.heap.size 186 4 (.slice p1 x.stn q1) x.stn (zX x.st x.stn)))=>?_) (zm (w:=u1) ?_ B);rotate_left;(focus(repeat(first | exact bZ | refine Below.drew ?_ | refine zr ?_ _ | refine zj ?_ (zl c) | refine zj ?_ (zl d))))) | skip);(first | (refine(fun (M:Hid (u2.ownsRow X.heap.size 138 2 (.slice p3 x.sen q3) x.sen (zW x.se x.sen)))=>?_) (zm (w:=u3) ?_ D);rotate_left;(focus(repeat(first | exact bZ | refine Below.drew ?_ | refine zr ?_ _ | refine zj ?_ (zl c) | refine zj ?_ (zl a))))) | skip))
   | (refine zN (by rfl) (.tmp 3) (.tmp 5) 133 (by rfl) 186 i0 (.agg #[int i64 0,int i64 0,int i64 0,int i64 0]) 4 32 Tryz.underlying133 ii a7 a8 a9 rfl (by decide) X.heap.size _ (by rfl) (by first | exact Nat.le_refl _ | omega | (simp;done) | (simp;omega) | (have o:=i.out.size;simp;omega) | (have o:=i.out.size;omega) | (have o:=j.out.size;simp;omega) | (have o:=j.out.size;omega)) (by repeat(first | ((with_reducible refine qY _ _ _ ?_);(first | rfl | (simp;done))) | with_reducible refine zF ?_ | with_reducible refine ze ?_ _ | with_reducible refine zc ?_ (zl c) | with_reducible refine zc ?_ (zl d))) l x.stn u (zX x.st x.stn) (by rfl) a0.out (Qh _ _) (zaA (W.out _ (by repeat(first | exact bZ | refine Below.drew ?_ | refine zr ?_ _ | refine zj ?_ (zl a) | refine zj ?_ (zl c) | refine zj ?_ (zl d))))) (Q5 _ _) (by unfold maxLen;omega) (by omega) ?_;intro p1 q1 u1 a B N;clear N;have g:Hid (Below X.heap.size X u1):=(by repeat(first | exact bZ | refine Below.drew ?_ | refine zr ?_ _ | refine zj ?_ (zl a) | refine zj ?_ (zl c) | refine zj ?_ (zl d)));have F:=R.out u1 g.out;have y0:=za F 0 _ rfl;have y1:=za F 1 _ rfl;have y2:=za F 2 _ rfl;have f0:=zg F 0;have f1:=zg F 1;have f2:=zg F 2;clear F;have K:=hI B;(first | (refine(fun (L:Hid (u1.ownsRow X.heap.size 190 4 (.slice p2 x.ron q2) x.ron (zQ x.ro x.ron)))=>?_) (zm (w:=u2) ?_ C);rotate_left;(focus(repeat(first | exact bZ | refine Below.drew ?_ | refine zr ?_ _ | refine zj ?_ (zl a) | refine zj ?_ (zl d))))) | skip);(first | (refine(fun (M:Hid (u1.ownsRow X.heap.size 138 2 (.slice p3 x.sen q3) x.sen (zW x.se x.sen)))=>?_) (zm (w:=u3) ?_ D);rotate_left;(focus(repeat(first | exact bZ | refine Below.drew ?_ | refine zr ?_ _ | refine zj ?_ (zl a) | refine zj ?_ (zl c))))) | skip)))
 all_goals
  first
   | (have J:Hid _:=t.out u3 j.out _ _ _ K.out L.out M.out _ rfl)
   | (have J:Hid _:=t.out u2 i.out _ _ _ K.out L.out M.out _ rfl)
   | (have J:Hid _:=t.out u1 g.out _ _ _ K.out L.out M.out _ rfl)
  go_wp2;have rF:=J.out.1;obtain⟨t0,t1,t2⟩:=ce3 rF;exact bodyPost_ret (v:=.agg #[.slice p1 x.stn q1,.slice p2 x.ron q2,.slice p3 x.sen q3]) (by simp[results,Tryz.results111,go_sem,t0,t1,t2]) rfl ⟨⟨_,_,_,rfl,J.out.2.1⟩,J.out.2.2⟩
theorem Tryz.infoLoadO:(Tryz.prog.info? 136).map (fun i=>(i.zero,i.size,i.bytes))=some (some (.agg #[.slice none 0 0,.slice none 0 0,.slice none 0 0]),3,72):=by kernel_rfl
theorem Tryz.infoBookingO:(Tryz.prog.info? 131).map (fun i=>(i.zero,i.size,i.bytes))=some (some (.agg #[int i64 0,int i64 0,.string ⟨#[]⟩,.slice none 0 0,int i64 0,int i64 0,int i64 0,int i64 0,.bool false,int i64 0,int i64 0,int i64 0,int i64 0]),13,128):=by kernel_rfl
theorem sbox_5 {w:World}{g t:Nat}{u0 u1 u2 u3 u4 u5 u6 u7:Value}(h:w.heap[g]?=some (.cells #[u0,u1,u2,u3,u4,u5,u6,u7] t (0,0)))(v:Value):(w.setCell ⟨g,5,none⟩ v).heap[g]?=some (.cells #[u0,u1,u2,u3,u4,v,u6,u7] t (0,0)):=by simpa using zy h 5 v
theorem sbox_6 {w:World}{g t:Nat}{u0 u1 u2 u3 u4 u5 u6 u7:Value}(h:w.heap[g]?=some (.cells #[u0,u1,u2,u3,u4,u5,u6,u7] t (0,0)))(v:Value):(w.setCell ⟨g,6,none⟩ v).heap[g]?=some (.cells #[u0,u1,u2,u3,u4,u5,v,u7] t (0,0)):=by simpa using zy h 6 v
theorem bbox_3 {w:World}{g t:Nat}{u0 u1 u2 u3 u4 u5 u6 u7 u8 u9 u10 u11 u12:Value}(h:w.heap[g]?=some (.cells #[u0,u1,u2,u3,u4,u5,u6,u7,u8,u9,u10,u11,u12] t (0,0)))(v:Value):(w.setCell ⟨g,3,none⟩ v).heap[g]?=some (.cells #[u0,u1,u2,v,u4,u5,u6,u7,u8,u9,u10,u11,u12] t (0,0)):=by simpa using zy h 3 v
theorem qX {w:World}{c:Option Addr}{n:Nat}{F:Nat->Int}(h:IntsAt w c n F):∀ a,c=some a->∀ j u,(zJ F n)[j]?=some u->w.cell? (a.add j)=some u:=by
 intro a e j u i;obtain⟨g,rfl⟩:=intList_get F n j u i;obtain⟨b,off,d,f⟩:=h j g;rw[e] at d
 cases d
 rw[Addr.add_lit];exact f
theorem Tryz.sizeBookingO:(Tryz.prog.info? 131).map (·.size)=some 13:=by kernel_rfl
theorem zbJ (n a pe len hei cl be st d c:Int)(o:ByteArray)(b:Bool)(la:Option Addr)(ln lc:Nat) :
  Tryz.prog.builtSlice 131 1 [(0,.agg #[int i64 n,int i64 a,.string o,.slice la ln lc,int i64 pe,int i64 len,int i64 hei,int i64 cl,.bool b,int i64 be,int i64 st,int i64 d,int i64 c])]=some #[int i64 n,int i64 a,.string o,.slice la ln lc,int i64 pe,int i64 len,int i64 hei,int i64 cl,.bool b,int i64 be,int i64 st,int i64 d,int i64 c]:=by kernel_rfl
structure OwSt (w V a:World)(c d e:Value)(f g n3:Nat)(x:Off)(L C A B D E:Nat->Value):Prop where
 q:a.heap[w.heap.size+1+1]?=some (.cells #[c,d,e] 66 (0,0))
 own:zV a V.heap.size c d e f g n3 x L C A B D E
 kp:zA V a (fun b=>b=w.heap.size+1+1∨V.heap.size<=b)
theorem zaj (ao al bo:Option Addr)(N M R c cl cb:Nat)(x:Off)(w:World)(e1:x.san=N)(e2:x.ldn=M)(n:x.bkn=R)(hs:Off.Short x 1048576)(hz:SailsAt w ao N x.sa)(hl:QE w al M x.ld)(n6:ZU w bo R x.bk) :
  Calls Tryz.prog 101 #[.agg #[.slice ao N c,.slice al M cl,.slice bo R cb]] w fun e w'=>(∃ a1 O a2 P l c3 L C A B D E,e=.returned (.agg #[.slice a1 N O,.slice a2 M P,.slice l R c3])/\zV w' w.heap.size (.slice a1 N O) (.slice a2 M P) (.slice l R c3) N M R x L C A B D E)/\Below w.heap.size w w':=by
 obtain⟨j0,ji,q3,q4,q5⟩:=info_parts Tryz.infoSailing;obtain⟨l0,li,q6,q7,q8⟩:=info_parts Tryz.infoLane;obtain⟨m0,mi,q9,r1,r2⟩:=info_parts Tryz.infoCabin;obtain⟨p0,pi,r3,r4,r5⟩:=info_parts Tryz.infoLoadO;obtain⟨r0,ri,r6,r7,r8⟩:=info_parts Tryz.infoBookingO;obtain⟨i0,ii,p7,p8,p9⟩:=info_parts Tryz.infoInt;have HS:Hid (ShortAll N x.sa 1048576):=by have h:=hs.1.2;rw[e1] at h;exact h
 have m8:Hid (zci M x.ld 1048576):=by have h:=hs.2.1.2;rw[e2] at h;exact h
 have p1:Hid (zcj R x.bk 1048576):=by have h:=hs.2.2.2;rw[n] at h;exact h
 have hN:N<=1048576:=by have h:=hs.1.1;omega
 have hM:M<=1048576:=by have h:=hs.2.1.1;omega
 have hR:R<=1048576:=by have h:=hs.2.2.1;omega
 have HZ:=hI hz;have HL:=hI hl;have n9:=hI n6;clear hs hz hl n6 e1 e2 n;have G:Below w.heap.size w (((w.alloc (.cells #[.slice ao N c,.slice al M cl,.slice bo R cb] 66)).alloc (.cells #[.slice none 0 0,.slice none 0 0,.slice none 0 0] 66)).alloc (.cells #[.slice none 0 0,.slice none 0 0,.slice none 0 0] 66)):=zr (zr (zr bZ _) _) _;have bO:(((w.alloc (.cells #[.slice ao N c,.slice al M cl,.slice bo R cb] 66)).alloc (.cells #[.slice none 0 0,.slice none 0 0,.slice none 0 0] 66)).alloc (.cells #[.slice none 0 0,.slice none 0 0,.slice none 0 0] 66)).heap[w.heap.size]?=some (.cells #[.slice ao N c,.slice al M cl,.slice bo R cb] 66 (0,0)):=ze (ze (heap_alloc_new w _) _) _;have bR:(((w.alloc (.cells #[.slice ao N c,.slice al M cl,.slice bo R cb] 66)).alloc (.cells #[.slice none 0 0,.slice none 0 0,.slice none 0 0] 66)).alloc (.cells #[.slice none 0 0,.slice none 0 0,.slice none 0 0] 66)).heap[w.heap.size+1]?=some (.cells #[.slice none 0 0,.slice none 0 0,.slice none 0 0] 66 (0,0)):=ze (zcC w _ _) _;have bQ:(((w.alloc (.cells #[.slice ao N c,.slice al M cl,.slice bo R cb] 66)).alloc (.cells #[.slice none 0 0,.slice none 0 0,.slice none 0 0] 66)).alloc (.cells #[.slice none 0 0,.slice none 0 0,.slice none 0 0] 66)).heap[w.heap.size+1+1]?=some (.cells #[.slice none 0 0,.slice none 0 0,.slice none 0 0] 66 (0,0)):=by simpa using heap_alloc_new ((w.alloc _).alloc _) _
 go_enter Tryz.func101,Tryz.ntmps101;go_wp2;generalize ((w.alloc (.cells #[.slice ao N c,.slice al M cl,.slice bo R cb] 66)).alloc (.cells #[.slice none 0 0,.slice none 0 0,.slice none 0 0] 66)).alloc (.cells #[.slice none 0 0,.slice none 0 0,.slice none 0 0] 66)=V at G bO bR bQ ⊢;have l4:=hI bO;have o0:=hI bR;have t1:w.heap.size+1+1<V.heap.size:=zZ bQ;go_loopw [5,14] (fun _ i d=>∃ (k:Nat) (v:Value) (L C:Nat->Value),k<=N/\i=int i64 k/\d.heap[w.heap.size+1+1]?=some (.cells #[v,.slice none 0 0,.slice none 0 0] 66 (0,0))/\OwnSails d V.heap.size v k x.sa L C/\zA V d (fun b=>b=w.heap.size+1+1∨V.heap.size<=b)) (fun _ i _=>N - (intOf i).toNat)
 case atStart=>exact⟨0,.slice none 0 0,fun _=>.slice none 0 0,fun _=>.slice none 0 0,Nat.zero_le _,rfl,bQ,OwnSails.nil _ _ _ _ _,zA.refl _ _⟩
 case round =>
  clear bO bR bQ;obtain⟨k,v,L,C,hk,rfl,hQ,hO,e8⟩:=hrel;have f:Below w.heap.size w d:=zA.below G G.size e8 (fun b e=>by have e:b=w.heap.size+1+1∨V.heap.size<=b:=e;have:=G.size;omega)
  have e4:=e8.size
  by_cases hlt:k<N
  ·obtain⟨b,off,la,lc,ca,cc,rfl,h0,h1,h2,h3,h4,h5,h6,h7,h8,h9,j6,j7⟩:=HZ.out k hlt
   obtain⟨s,l2⟩:∃ s,s=x.sa k:=⟨_,rfl⟩;obtain⟨_,_,s3,s4⟩:=HS.out k hlt;rw[← l2] at h0 h1 h2 h3 h4 h5 h6 h7 h8 h9 j6 j7 s3 s4;have j4:=hI l2;have o:=World.block_lt_of_cell? w _ h1;have c0:=(f.cell (p:=⟨b,off+k*8,none⟩) o).trans h0;have O:=(f.cell (p:=⟨b,off+k*8+1,none⟩) o).trans h1;have P:=(f.cell (p:=⟨b,off+k*8+2,none⟩) o).trans h2;have c3:=(f.cell (p:=⟨b,off+k*8+3,none⟩) o).trans h3;have c4:=(f.cell (p:=⟨b,off+k*8+4,none⟩) o).trans h4;have c5:=(f.cell (p:=⟨b,off+k*8+5,none⟩) o).trans h5;have c6:=(f.cell (p:=⟨b,off+k*8+6,none⟩) o).trans h6;have c7:=(f.cell (p:=⟨b,off+k*8+7,none⟩) o).trans h7;have l8:Hid (qd w la s.la/\SliceOk la s.la.n lc):=⟨h8,j6⟩;have l5:Hid (qd w ca s.ca/\SliceOk ca s.ca.n cc):=⟨h9,j7⟩;clear h0 h1 h2 h3 h4 h5 h6 h7 h8 h9 j6 j7 l2;have e7:Hid (∀ i,i<k->(∀ b,(L i).ownBlock=some b->b<d.heap.size)/\(∀ b,(C i).ownBlock=some b->b<d.heap.size)):=fun i hi=>⟨fun b o=>((hO.la i hi).lt b o).2,fun b o=>((hO.ca i hi).lt b o).2⟩
   have J:Below d.heap.size d (d.alloc (.cells #[int i64 s.id,.string s.fr,.string s.dst,int i64 s.dep,int i64 s.arr,.slice la s.la.n lc,.slice ca s.ca.n cc,int i64 s.most] 37)):=zr bZ _;have bX:=heap_alloc_new d (.cells #[int i64 s.id,.string s.fr,.string s.dst,int i64 s.dep,int i64 s.arr,.slice la s.la.n lc,.slice ca s.ca.n cc,int i64 s.most] 37);have F:=ze bX (.cells #[] 106);have q:Below d.heap.size d ((d.alloc (.cells #[int i64 s.id,.string s.fr,.string s.dst,int i64 s.dep,int i64 s.arr,.slice la s.la.n lc,.slice ca s.ca.n cc,int i64 s.most] 37)).alloc (.cells #[] 106)):=zr J _;have x5:=za F 5 _ rfl;have hE:((d.alloc (.cells #[int i64 s.id,.string s.fr,.string s.dst,int i64 s.dep,int i64 s.arr,.slice la s.la.n lc,.slice ca s.ca.n cc,int i64 s.most] 37)).alloc (.cells #[] 106)).ownsRow (d.heap.size+1) 106 2 (.slice (some ⟨d.heap.size+1,0,none⟩) 0 0) 0 []:=⟨rfl,.inr ⟨d.heap.size+1,0,#[],rfl,Nat.le_refl _,zcC d _ _,Nat.le_refl _,Nat.zero_le _,rfl,rfl⟩⟩;have HE:Hid _:=hE;have a5:=hI (pairs_cells (l8.out.1.below (zj f q)));have a7:=hI l8.out.2.2.2;clear hE;go_upto_region 6 with(first|(at_builtin;refine zz _ (by rfl) (.tmp 18) (.tmp 20) 34 (by rfl) (d.heap.size+1) 106 l0 (.agg #[int i64 0,int i64 0]) 2 16 Tryz.underlying34 li q6 q7 q8 rfl (by decide) _ 0 [] (by rfl) HE.out la s.la.n lc (zG s.la) (by rfl) a7.out (pairRow_length _) a5.out (pairRow_one _) (by unfold maxLen;omega) (by omega) (by simp) ?_;intro v3 w3 a0 d7;rw[Nat.zero_add,List.nil_append] at a0;obtain⟨l,n,rfl,_⟩:=zt a0;have W:=(zO d7).blk F (by simp[Value.ownBlock]);have u5:=za W 5 _ rfl;have f5:=zg W 5;have g4:Below d.heap.size d w3:=q.grown d7 q.size (fun j hj=>by simp[Value.ownBlock] at hj;omega)))
   have a8:=sbox_5 W (.slice l s.la.n n);have X:Below d.heap.size d (w3.setCell ⟨d.heap.size,5,none⟩ (.slice l s.la.n n)):=g4.setCell (p:=⟨d.heap.size,5,none⟩) (Nat.le_refl _) _;have k8:(w3.setCell ⟨d.heap.size,5,none⟩ (.slice l s.la.n n)).ownsRow (d.heap.size+1) 106 2 (.slice l s.la.n n) s.la.n (zG s.la):=own_set a0 (a:=⟨d.heap.size,5,none⟩) (by show d.heap.size<d.heap.size+1;omega) _
   generalize w3.setCell ⟨d.heap.size,5,none⟩ (.slice l s.la.n n)=I at a8 X k8 ⊢;have e5:=hI k8;clear W u5 f5 g4 a0 d7 x5 J bX F q HE a5 a7 k8 c0 O P c3 c4 c5 c6 c7;have F:=ze a8 (.cells #[] 110);have q:Below d.heap.size d (I.alloc (.cells #[] 110)):=zr X _;have g5:Below I.heap.size I (I.alloc (.cells #[] 110)):=zr bZ _;have x6:=za F 6 _ rfl;have s9:d.heap.size<I.heap.size:=zZ a8;have hE:(I.alloc (.cells #[] 110)).ownsRow I.heap.size 110 2 (.slice (some ⟨I.heap.size,0,none⟩) 0 0) 0 []:=⟨rfl,.inr ⟨I.heap.size,0,#[],rfl,Nat.le_refl _,heap_alloc_new I _,Nat.le_refl _,Nat.zero_le _,rfl,rfl⟩⟩;have HE:Hid _:=hE;have a5:=hI (pairs_cells (l5.out.1.below (zj f q)));have a7:=hI l5.out.2.2.2;clear hE;go_upto_region 7 with(first|(at_builtin;refine zz _ (by rfl) (.tmp 23) (.tmp 25) 35 (by rfl) I.heap.size 110 m0 (.agg #[int i64 0,int i64 0]) 2 16 Tryz.underlying35 mi q9 r1 r2 rfl (by decide) _ 0 [] (by rfl) HE.out ca s.ca.n cc (zG s.ca) (by rfl) a7.out (pairRow_length _) a5.out (pairRow_one _) (by unfold maxLen;omega) (by omega) (by simp) ?_;intro v6 w6 i7 k6;rw[Nat.zero_add,List.nil_append] at i7;obtain⟨a6,e6,rfl,_⟩:=zt i7;have i4:=(zO k6).blk F (by simp[Value.ownBlock];omega);have u6:=za i4 6 _ rfl;have f6:=zg i4 6;have b8:Below I.heap.size I w6:=g5.grown k6 g5.size (fun j hj=>by simp[Value.ownBlock] at hj;omega)))
   have n0:=sbox_6 i4 (.slice a6 s.ca.n e6);have k4:Below d.heap.size d (w6.setCell ⟨d.heap.size,6,none⟩ (.slice a6 s.ca.n e6)):=(zj X b8).setCell (p:=⟨d.heap.size,6,none⟩) (Nat.le_refl _) _;have k9:(w6.setCell ⟨d.heap.size,6,none⟩ (.slice a6 s.ca.n e6)).ownsRow (d.heap.size+1) 106 2 (.slice l s.la.n n) s.la.n (zG s.la):=own_set (zm b8 e5.out) (a:=⟨d.heap.size,6,none⟩) (by show d.heap.size<d.heap.size+1;omega) _
   have k5:(w6.setCell ⟨d.heap.size,6,none⟩ (.slice a6 s.ca.n e6)).ownsRow (d.heap.size+1) 110 2 (.slice a6 s.ca.n e6) s.ca.n (zG s.ca):=zE (own_set i7 (a:=⟨d.heap.size,6,none⟩) (by show d.heap.size<I.heap.size;omega) _) (by omega)
   generalize w6.setCell ⟨d.heap.size,6,none⟩ (.slice a6 s.ca.n e6)=W7 at n0 k4 k9 k5 ⊢;clear a8 F i4 u6 f6 b8 i7 k6 x6 q g5 HE a5 a7 e5 X;obtain⟨av,cv,rfl,_⟩:=zt hO.row;have n5:=zc hQ k4;obtain⟨y0,y1,y2,y3,y4,y5,y6,y7⟩:=ce8 n0;have q0:=za n5 0 _ rfl;have d6:Below d.heap.size d (W7.alloc (.cells #[int i64 s.id,.string s.fr,.string s.dst,int i64 s.dep,int i64 s.arr,.slice l s.la.n n,.slice a6 s.ca.n e6,int i64 s.most] 37)):=zr k4 _;have i8:Below W7.heap.size W7 (W7.alloc (.cells #[int i64 s.id,.string s.fr,.string s.dst,int i64 s.dep,int i64 s.arr,.slice l s.la.n n,.slice a6 s.ca.n e6,int i64 s.most] 37)):=zr bZ _;have n1:=hO.below d6;have n8:=zm i8 k9;have n7:=zm i8 k5;have j9:=ze n5 (.cells #[int i64 s.id,.string s.fr,.string s.dst,int i64 s.dep,int i64 s.arr,.slice l s.la.n n,.slice a6 s.ca.n e6,int i64 s.most] 37);have j2:Hid (∀ j u,([int i64 s.id,.string s.fr,.string s.dst,int i64 s.dep,int i64 s.arr,.slice l s.la.n n,.slice a6 s.ca.n e6,int i64 s.most]:List Value)[j]?=some u->(W7.alloc (.cells #[int i64 s.id,.string s.fr,.string s.dst,int i64 s.dep,int i64 s.arr,.slice l s.la.n n,.slice a6 s.ca.n e6,int i64 s.most] 37)).cell? ((⟨W7.heap.size,0,none⟩:Addr).add j)=some u):=World.news_of_block (heap_alloc_new W7 _);have Q:=hI n1;have l9:Hid ((W7.alloc (.cells #[int i64 s.id,.string s.fr,.string s.dst,int i64 s.dep,int i64 s.arr,.slice l s.la.n n,.slice a6 s.ca.n e6,int i64 s.most] 37)).ownsRow (d.heap.size+1) 106 2 (.slice l s.la.n n) s.la.n (zG s.la)/\(W7.alloc (.cells #[int i64 s.id,.string s.fr,.string s.dst,int i64 s.dep,int i64 s.arr,.slice l s.la.n n,.slice a6 s.ca.n e6,int i64 s.most] 37)).ownsRow (d.heap.size+1) 110 2 (.slice a6 s.ca.n e6) s.ca.n (zG s.ca)):=⟨n8,n7⟩;have i1:V.heap.size<=(W7.alloc (.cells #[int i64 s.id,.string s.fr,.string s.dst,int i64 s.dep,int i64 s.arr,.slice l s.la.n n,.slice a6 s.ca.n e6,int i64 s.most] 37)).heap.size:=Nat.le_trans e4 d6.size;clear n1 n8 n7 k9 k5;go_wp2_with (first|(at_builtin;refine zz _ (by rfl) (.tmp 29) (.tmp 31) 62 (by rfl) V.heap.size 37 j0 (.agg #[int i64 0,.string ⟨#[]⟩,.string ⟨#[]⟩,int i64 0,int i64 0,.slice none 0 0,.slice none 0 0,int i64 0]) 8 112 Tryz.underlying62 ji q3 q4 q5 rfl (by decide) _ k _ (by rfl) Q.out.row (some ⟨W7.heap.size,0,none⟩) 1 1 [int i64 s.id,.string s.fr,.string s.dst,int i64 s.dep,int i64 s.arr,.slice l s.la.n n,.slice a6 s.ca.n e6,int i64 s.most] (by rfl) (fun h=>(by cases h)) (by rfl) (fun ad e=>by cases e;exact j2.out) (by intro u hu;simp at hu;rcases hu with rfl|rfl|rfl|rfl|rfl|rfl|rfl|rfl <;> rfl) (by unfold maxLen;omega) (by omega) i1 ?_;intro v9 w9 g8 d8;obtain⟨a9,e9,rfl,_⟩:=zt g8;have b7:=(zO d8).blk j9 (fun e=>by have:=(Q.out.row.lt _ e).1;omega);have r9:=za b7 0 _ rfl;have f9:=zg b7 0))
   have i5:OwnSails w9 V.heap.size (.slice a9 (k+1) e9) (k+1) x.sa (atV L k (.slice l s.la.n n)) (atV C k (.slice a6 s.ca.n e6)) :=
    Q.out.snoc (lim:=d.heap.size+1) (fun i hi=>⟨fun b o=>by have:=(e7.out i hi).1 b o;omega,fun b o=>by have:=(e7.out i hi).2 b o;omega⟩) (by rw[← j4.out];exact l9.out.1) (by rw[← j4.out];exact l9.out.2) (by omega) d8 (by rw[← j4.out];exact g8)
   have K:zA w9 (w9.setCell ⟨w.heap.size+1+1,0,none⟩ (.slice a9 (k+1) e9)) (fun b=>b=w.heap.size+1+1):=(zA.refl _ (fun b=>b=w.heap.size+1+1)).set (a:=⟨w.heap.size+1+1,0,none⟩) rfl _
   have f4:Hid (OwnSails (w9.setCell ⟨w.heap.size+1+1,0,none⟩ (.slice a9 (k+1) e9)) V.heap.size (.slice a9 (k+1) e9) (k+1) x.sa (atV L k (.slice l s.la.n n)) (atV C k (.slice a6 s.ca.n e6))):=i5.kept K (fun b e=>by have e:b=w.heap.size+1+1:=e;omega)
   have o6:Hid (zA V (w9.setCell ⟨w.heap.size+1+1,0,none⟩ (.slice a9 (k+1) e9)) (fun b=>b=w.heap.size+1+1∨V.heap.size<=b)) :=
    (e8.trans (zA.of_below d6)).trans (((zO d8).mono (fun b e=>.inr (Q.out.row.lt b e).1)).trans (K.mono (fun b e=>.inl e)))
   have j1:=off_at0 b7 (.slice a9 (k+1) e9);have j1:Hid _:=j1;go_wp2;go_roundw
   case rel=>exact⟨k+1,_,_,_,by omega,by go_num,j1.out,f4.out,o6.out⟩
   case measure=>simp[intOf];omega
  ·obtain rfl:k=N:=by omega
   have o1:=za (e8.blk l4.out (fun e=>by have e:w.heap.size=w.heap.size+1+1∨V.heap.size<=w.heap.size:=e;omega)) 1 _ rfl
   have m7:Hid (OwSt w V d v (.slice none 0 0) (.slice none 0 0) k 0 0 x L C (fun _=>.slice none 0 0) (fun _=>.slice none 0 0) (fun _=>.slice none 0 0) (fun _=>.slice none 0 0)):=⟨hQ,⟨hO,Zb.nil _ _ _ _ _ _,Zj.nil _ _ _ _⟩,e8⟩
   obtain⟨av,cv,rfl,_⟩:=zt hO.row;clear hlt f hO hQ e8 e4 hk HZ HS;go_wp2;clear o1;go_loopw [7,38] (fun _ i wz=>∃ (t:Nat) (lv:Value) (A B D:Nat->Value),t<=M/\i=int i64 t/\Hid (OwSt w V wz (.slice av k cv) lv (.slice none 0 0) k t 0 x L C A B D (fun _=>.slice none 0 0))) (fun _ i _=>M - (intOf i).toNat)
   case atStart=>exact⟨0,_,_,_,_,Nat.zero_le _,rfl,m7.out⟩
   case round =>
    clear m7;obtain⟨t,lv,A,B,D,ht,rfl,m⟩:=hrel;have f:Below w.heap.size w d:=zA.below G G.size m.out.kp (fun b e=>by have e:b=w.heap.size+1+1∨V.heap.size<=b:=e;have:=G.size;omega)
    obtain⟨ae,ce,rfl,_⟩:=zt m.out.own.ld.row
    by_cases hlt:t<M
    ·obtain⟨Cc,g9,g7⟩:=HL.out
     obtain⟨b,off,rfl,H⟩:=g9 t hlt;obtain⟨S,b0,T,b5,U,b6,d5,g1,s1,g2,s2,g3,s3⟩:=g7 t hlt;have d9:=m8.out t hlt;obtain⟨z,hz⟩:∃ z,z=x.ld t:=⟨_,rfl⟩;rw[← hz] at d5 g1 s1 g2 s2 g3 s3 d9;have j5:=hI hz;rw[d5] at H;have o:=World.block_lt_of_cell? w _ (H 0 (by decide))
     have c0:d.cell? ⟨b,off+t*3,none⟩=some (.slice S z.stn b0):=(f.cell (p:=⟨b,off+t*3,none⟩) o).trans (H 0 (by decide))
     have O:d.cell? ⟨b,off+t*3+1,none⟩=some (.slice T z.ron b5):=(f.cell (p:=⟨b,off+t*3+1,none⟩) o).trans (H 1 (by decide))
     have P:d.cell? ⟨b,off+t*3+2,none⟩=some (.slice U z.sen b6):=(f.cell (p:=⟨b,off+t*3+2,none⟩) o).trans (H 2 (by decide))
     have d0:Hid (qT.Short z 1048576/\(Zv w S z.stn z.st/\SliceOk S z.stn b0)/\(Zm w T z.ron z.ro/\SliceOk T z.ron b5)/\(ZI w U z.sen z.se/\SliceOk U z.sen b6)):=⟨d9,⟨g1,s1⟩,⟨g2,s2⟩,⟨g3,s3⟩⟩;have o4:=hI f;clear H d5 g1 s1 g2 s2 g3 s3 d9 hz g9 g7;have J:Below d.heap.size d (d.alloc (.cells #[.slice S z.stn b0,.slice T z.ron b5,.slice U z.sen b6] 136)):=zr bZ _;have bX:=heap_alloc_new d (.cells #[.slice S z.stn b0,.slice T z.ron b5,.slice U z.sen b6] 136);have k0:=ze m.out.q (.cells #[.slice S z.stn b0,.slice T z.ron b5,.slice U z.sen b6] 136)
     as_aux_lemma =>
      go_upto_region 12 with fail;generalize hbxx:d.heap.size=bx at bX ⊢;generalize d.alloc (.cells #[.slice S z.stn b0,.slice T z.ron b5,.slice U z.sen b6] 136)=WB at J bX k0 ⊢;rw[← hbxx] at *;clear c0 O P;obtain⟨x0,x1,x2⟩:=ce3 bX;have q1:=za k0 1 _ rfl;have i3:=hI (m.out.own.below J);have l6:=hI (m.out.kp.trans (zA.of_below J));have i9:V.heap.size<=WB.heap.size:=l6.out.size;have e7:Hid (∀ i,i<t->(∀ g,(A i).ownBlock=some g->g<WB.heap.size)/\(∀ g,(B i).ownBlock=some g->g<WB.heap.size)/\(∀ g,(D i).ownBlock=some g->g<WB.heap.size)):=fun i hi=>⟨fun g hg=>((i3.out.ld.st i hi).lt g hg).2,fun g hg=>((i3.out.ld.ro i hi).lt g hg).2,fun g hg=>((i3.out.ld.se i hi).lt g hg).2⟩
      have o5:Hid (∀ Z,Below WB.heap.size WB Z->Calls Tryz.prog 111 #[.agg #[.slice S z.stn b0,.slice T z.ron b5,.slice U z.sen b6]] Z fun e w5=>(∃ a1 O a2 P l c3,e=.returned (.agg #[.slice a1 z.stn O,.slice a2 z.ron P,.slice l z.sen c3])/\Hid (w5.ownsRow WB.heap.size 186 4 (.slice a1 z.stn O) z.stn (zX z.st z.stn)/\w5.ownsRow WB.heap.size 190 4 (.slice a2 z.ron P) z.ron (zQ z.ro z.ron)/\w5.ownsRow WB.heap.size 138 2 (.slice l z.sen c3) z.sen (zW z.se z.sen)))/\Below WB.heap.size WB w5):=fun Z hZ=>by
       have l3:=zj o4.out (zj J hZ);refine(zeF S T U b0 b5 b6 z Z d0.out.1 (d0.out.2.1.1.below l3) (d0.out.2.2.1.1.below l3) (d0.out.2.2.2.1.below l3) d0.out.2.1.2 d0.out.2.2.1.2 d0.out.2.2.2.2).mono ?_;rintro e w5 ⟨⟨v1,v2,v3,rfl,o1,o2,o3⟩,p5⟩;obtain⟨a1,O,rfl,_⟩:=zt o1;obtain⟨a2,P,rfl,_⟩:=zt o2;obtain⟨l,c3,rfl,_⟩:=zt o3;exact⟨⟨a1,O,a2,P,l,c3,rfl,zE o1 hZ.size,zE o2 hZ.size,zE o3 hZ.size⟩,zj hZ p5⟩
      clear m bX f;go_region_law (first
       | (go_simp;go_at_call 111;(with_reducible refine Calls.mono (o5.out _ ?_) ?_);(focus(repeat(first | exact bZ | refine Below.drew ?_ | refine zr ?_ _)));rintro e w5 ⟨⟨a1,O,a2,P,l,c3,rfl,j3⟩,b8⟩;have j8:=zc k0 b8;have qq:=za j8 1 _ rfl;have qa:=za (ze j8 (.cells #[.slice a1 z.stn O,.slice a2 z.ron P,.slice l z.sen c3] 136)) 1 _ rfl;have i2:Hid (zV (w5.alloc (.cells #[.slice a1 z.stn O,.slice a2 z.ron P,.slice l z.sen c3] 136)) V.heap.size (.slice av k cv) (.slice ae t ce) (.slice none 0 0) k t 0 x L C A B D (fun _=>.slice none 0 0)):=i3.out.below (zr b8 _);have p6:V.heap.size<=(w5.alloc (.cells #[.slice a1 z.stn O,.slice a2 z.ron P,.slice l z.sen c3] 136)).heap.size:=Nat.le_trans i9 (zr b8 _).size;dsimp only)
       | (refine step_append_lies _ (by rfl) (.tmp 43) (.tmp 46) 63 (by rfl) V.heap.size 136 p0 (.agg #[.slice none 0 0,.slice none 0 0,.slice none 0 0]) 3 72 Tryz.underlying63 pi r3 r4 r5 rfl (by decide) _ t (zbx A B D t) (by rfl) i2.out.ld.row ⟨w5.heap.size,0,none⟩ 1 1 [.slice a1 z.stn O,.slice a2 z.ron P,.slice l z.sen c3] (by rfl) (by rfl) (World.news_of_block (cs:=#[.slice a1 z.stn O,.slice a2 z.ron P,.slice l z.sen c3]) (t:=136) (fr:=(0,0)) (heap_alloc_new w5 _)) (by intro u hu;simp at hu;rcases hu with rfl | rfl | rfl <;> rfl) (by decide) (by unfold maxLen;omega) (by omega) p6 (w5.heap.size+1) (by simp) ?_;intro g6 f7 w6 l1 Y s8 t0;have i6:=(zO Y).blk (ze j8 (.cells #[.slice a1 z.stn O,.slice a2 z.ron P,.slice l z.sen c3] 136)) (fun e=>by have:=(i2.out.ld.row.lt _ e).1;omega);have u1:=za i6 1 _ rfl;have u2:=zg i6 1))
      all_goals
       have m6:=i2.out.load (lim:=WB.heap.size) e7.out (by rw[← j5.out];exact zm (zr bZ _) j3.out.1) (by rw[← j5.out];exact zm (zr bZ _) j3.out.2.1) (by rw[← j5.out];exact zm (zr bZ _) j3.out.2.2) i9 Y l1
       have K:zA w6 (w6.setCell ⟨w.heap.size+1+1,1,none⟩ (.slice (some ⟨g6,0,none⟩) (t+1) f7)) (fun b=>b=w.heap.size+1+1):=(zA.refl _ (fun b=>b=w.heap.size+1+1)).set (a:=⟨w.heap.size+1+1,1,none⟩) rfl _
       have f4:Hid (OwSt w V (w6.setCell ⟨w.heap.size+1+1,1,none⟩ (.slice (some ⟨g6,0,none⟩) (t+1) f7)) _ _ _ k (t+1) 0 x L C _ _ _ _):=⟨off_at1 i6 (.slice (some ⟨g6,0,none⟩) (t+1) f7),m6.box K i6 (by decide),(l6.out.trans (zA.of_below (zr b8 _))).trans (((zO Y).mono (fun b e=>.inr (i2.out.ld.row.lt b e).1)).trans (K.mono (fun b e=>.inl e)))⟩
       clear m6 K;go_wp2;go_roundw
       case rel=>exact⟨t+1,_,_,_,_,by omega,by go_num,f4.out⟩
       case measure=>simp[intOf];omega
    ·obtain rfl:t=M:=by omega
     have o2:=za (m.out.kp.blk l4.out (fun e=>by have e:w.heap.size=w.heap.size+1+1∨V.heap.size<=w.heap.size:=e;omega)) 2 _ rfl
     clear hlt f ht HL m8;go_wp2;clear o2;go_loopw [9,53] (fun _ i wz=>∃ (r:Nat) (bv:Value) (E:Nat->Value),r<=R/\i=int i64 r/\Hid (OwSt w V wz (.slice av k cv) (.slice ae t ce) bv k t r x L C A B D E)) (fun _ i _=>R - (intOf i).toNat)
     case atStart=>exact⟨0,_,_,Nat.zero_le _,rfl,m.out⟩
     case round =>
      clear m;obtain⟨r,bv,E,hr,rfl,m⟩:=hrel;have f:Below w.heap.size w d:=zA.below G G.size m.out.kp (fun b e=>by have e:b=w.heap.size+1+1∨V.heap.size<=b:=e;have:=G.size;omega)
      obtain⟨ab,f8,rfl,_⟩:=zt m.out.own.bk.row
      by_cases hlt:r<R
      ·obtain⟨Cc,g9,g7⟩:=n9.out
       obtain⟨b,off,rfl,H⟩:=g9 r hlt;obtain⟨b9,e0,d5,g1,s1⟩:=g7 r hlt;have d9:=p1.out r hlt;obtain⟨y,hy⟩:∃ y,y=x.bk r:=⟨_,rfl⟩;rw[← hy] at d5 g1 s1 d9;have m9:=hI hy;rw[d5] at H;have o:=World.block_lt_of_cell? w _ (H 0 (by decide))
       have c0:d.cell? ⟨b,off+r*13,none⟩=some (int i64 y.name):=(f.cell (p:=⟨b,off+r*13,none⟩) o).trans (H 0 (by decide))
       have O:d.cell? ⟨b,off+r*13+1,none⟩=some (int i64 y.who):=(f.cell (p:=⟨b,off+r*13+1,none⟩) o).trans (H 1 (by decide))
       have P:d.cell? ⟨b,off+r*13+2,none⟩=some (.string y.own):=(f.cell (p:=⟨b,off+r*13+2,none⟩) o).trans (H 2 (by decide))
       have c3:d.cell? ⟨b,off+r*13+3,none⟩=some (.slice b9 y.lgn e0):=(f.cell (p:=⟨b,off+r*13+3,none⟩) o).trans (H 3 (by decide))
       have c4:d.cell? ⟨b,off+r*13+4,none⟩=some (int i64 y.pe):=(f.cell (p:=⟨b,off+r*13+4,none⟩) o).trans (H 4 (by decide))
       have c5:d.cell? ⟨b,off+r*13+5,none⟩=some (int i64 y.len):=(f.cell (p:=⟨b,off+r*13+5,none⟩) o).trans (H 5 (by decide))
       have c6:d.cell? ⟨b,off+r*13+6,none⟩=some (int i64 y.hei):=(f.cell (p:=⟨b,off+r*13+6,none⟩) o).trans (H 6 (by decide))
       have c7:d.cell? ⟨b,off+r*13+7,none⟩=some (int i64 y.cl):=(f.cell (p:=⟨b,off+r*13+7,none⟩) o).trans (H 7 (by decide))
       have c8:d.cell? ⟨b,off+r*13+8,none⟩=some (.bool y.all):=(f.cell (p:=⟨b,off+r*13+8,none⟩) o).trans (H 8 (by decide))
       have c9:d.cell? ⟨b,off+r*13+9,none⟩=some (int i64 y.be):=(f.cell (p:=⟨b,off+r*13+9,none⟩) o).trans (H 9 (by decide))
       have p2:d.cell? ⟨b,off+r*13+10,none⟩=some (int i64 y.state):=(f.cell (p:=⟨b,off+r*13+10,none⟩) o).trans (H 10 (by decide))
       have p3:d.cell? ⟨b,off+r*13+11,none⟩=some (int i64 y.unt):=(f.cell (p:=⟨b,off+r*13+11,none⟩) o).trans (H 11 (by decide))
       have p4:d.cell? ⟨b,off+r*13+12,none⟩=some (int i64 y.price):=(f.cell (p:=⟨b,off+r*13+12,none⟩) o).trans (H 12 (by decide))
       have t2:y.lgn<=1048576:=d9.2;have m5:Hid (IntsAt w b9 y.lgn y.lg/\SliceOk b9 y.lgn e0):=⟨g1,s1⟩;clear H d5 g1 s1 d9 hy g9 g7;have J:Below d.heap.size d (d.alloc (.cells #[int i64 y.name,int i64 y.who,.string y.own,.slice b9 y.lgn e0,int i64 y.pe,int i64 y.len,int i64 y.hei,int i64 y.cl,.bool y.all,int i64 y.be,int i64 y.state,int i64 y.unt,int i64 y.price] 131)):=zr bZ _;have bX:=heap_alloc_new d (.cells #[int i64 y.name,int i64 y.who,.string y.own,.slice b9 y.lgn e0,int i64 y.pe,int i64 y.len,int i64 y.hei,int i64 y.cl,.bool y.all,int i64 y.be,int i64 y.state,int i64 y.unt,int i64 y.price] 131);have F:=ze bX (.cells #[] 3);have q:Below d.heap.size d ((d.alloc (.cells #[int i64 y.name,int i64 y.who,.string y.own,.slice b9 y.lgn e0,int i64 y.pe,int i64 y.len,int i64 y.hei,int i64 y.cl,.bool y.all,int i64 y.be,int i64 y.state,int i64 y.unt,int i64 y.price] 131)).alloc (.cells #[] 3)):=zr J _;have x3:=za F 3 _ rfl;have HE:Hid (((d.alloc (.cells #[int i64 y.name,int i64 y.who,.string y.own,.slice b9 y.lgn e0,int i64 y.pe,int i64 y.len,int i64 y.hei,int i64 y.cl,.bool y.all,int i64 y.be,int i64 y.state,int i64 y.unt,int i64 y.price] 131)).alloc (.cells #[] 3)).ownsRow (d.heap.size+1) 3 1 (.slice (some ⟨d.heap.size+1,0,none⟩) 0 0) 0 []):=⟨rfl,.inr ⟨d.heap.size+1,0,#[],rfl,Nat.le_refl _,zcC d _ _,Nat.le_refl _,Nat.zero_le _,rfl,rfl⟩⟩;have a5:=hI (qX (m5.out.1.below (zj f q)));have a7:=hI m5.out.2.2.2;have e7:Hid (∀ i,i<r->∀ b,(E i).ownBlock=some b->b<d.heap.size+1):=fun i hi g hg=>by have:=((m.out.own.bk.legs i hi).lt g hg).2;omega
       as_aux_lemma =>
        go_upto_region 18 with(first|(at_builtin;refine zz _ (by rfl) (.tmp 57) (.tmp 59) 23 (by rfl) (d.heap.size+1) 3 i0 (int i64 0) 1 8 Tryz.underlying23 ii p7 p8 p9 rfl (by decide) _ 0 [] (by rfl) HE.out b9 y.lgn e0 (zJ y.lg y.lgn) (by rfl) a7.out (by rw[intList_length,Nat.mul_one]) a5.out (intList_one _ _) (by unfold maxLen;omega) (by omega) (by simp) ?_;intro v3 w3 a0 d7;rw[Nat.zero_add,List.nil_append] at a0;obtain⟨l,n,rfl,_⟩:=zt a0;have W:=(zO d7).blk F (by simp[Value.ownBlock]);have v5:=za W 3 _ rfl;have f5:=zg W 3;have g4:Below d.heap.size d w3:=q.grown d7 q.size (fun j hj=>by simp[Value.ownBlock] at hj;omega)))
        have a8:=bbox_3 W (.slice l y.lgn n);have X:Below d.heap.size d (w3.setCell ⟨d.heap.size,3,none⟩ (.slice l y.lgn n)):=g4.setCell (p:=⟨d.heap.size,3,none⟩) (Nat.le_refl _) _;have e5:Hid ((w3.setCell ⟨d.heap.size,3,none⟩ (.slice l y.lgn n)).ownsRow (d.heap.size+1) 3 1 (.slice l y.lgn n) y.lgn (zJ y.lg y.lgn)):=own_set a0 (a:=⟨d.heap.size,3,none⟩) (by show d.heap.size<d.heap.size+1;omega) _
        generalize w3.setCell ⟨d.heap.size,3,none⟩ (.slice l y.lgn n)=I at a8 X e5 ⊢;clear W v5 f5 g4 a0 d7 x3 J bX F q HE a5 a7 c0 O P c3 c4 c5 c6 c7 c8 c9 p2 p3 p4;have n4:=zc m.out.q X;obtain⟨y0,y1,y2,y3,y4,y5,y6,y7,y8,y9,s5,s6,s7⟩:=ce13 a8;have q2:=za n4 2 _ rfl;have d6:Below d.heap.size d (I.alloc (.cells #[int i64 y.name,int i64 y.who,.string y.own,.slice l y.lgn n,int i64 y.pe,int i64 y.len,int i64 y.hei,int i64 y.cl,.bool y.all,int i64 y.be,int i64 y.state,int i64 y.unt,int i64 y.price] 131)):=zr X _;have Q:=hI (m.out.own.below d6);have o9:Hid ((I.alloc (.cells #[int i64 y.name,int i64 y.who,.string y.own,.slice l y.lgn n,int i64 y.pe,int i64 y.len,int i64 y.hei,int i64 y.cl,.bool y.all,int i64 y.be,int i64 y.state,int i64 y.unt,int i64 y.price] 131)).ownsRow (d.heap.size+1) 3 1 (.slice l y.lgn n) y.lgn (zJ y.lg y.lgn)):=zm (zr bZ _) e5.out;have j9:=ze n4 (.cells #[int i64 y.name,int i64 y.who,.string y.own,.slice l y.lgn n,int i64 y.pe,int i64 y.len,int i64 y.hei,int i64 y.cl,.bool y.all,int i64 y.be,int i64 y.state,int i64 y.unt,int i64 y.price] 131);have j2:Hid (∀ j u,([int i64 y.name,int i64 y.who,.string y.own,.slice l y.lgn n,int i64 y.pe,int i64 y.len,int i64 y.hei,int i64 y.cl,.bool y.all,int i64 y.be,int i64 y.state,int i64 y.unt,int i64 y.price]:List Value)[j]?=some u->(I.alloc (.cells #[int i64 y.name,int i64 y.who,.string y.own,.slice l y.lgn n,int i64 y.pe,int i64 y.len,int i64 y.hei,int i64 y.cl,.bool y.all,int i64 y.be,int i64 y.state,int i64 y.unt,int i64 y.price] 131)).cell? ((⟨I.heap.size,0,none⟩:Addr).add j)=some u):=World.news_of_block (heap_alloc_new I _);have l7:=hI m.out.kp;have e4:=l7.out.size;have i1:V.heap.size<=(I.alloc (.cells #[int i64 y.name,int i64 y.who,.string y.own,.slice l y.lgn n,int i64 y.pe,int i64 y.len,int i64 y.hei,int i64 y.cl,.bool y.all,int i64 y.be,int i64 y.state,int i64 y.unt,int i64 y.price] 131)).heap.size:=Nat.le_trans e4 d6.size;clear m e5 X;clear y0 y1 y2 y3 y4 y5 y6 y7 y8 y9 s5 s6 s7;refine wp_region_lit ?_;refine Go.Great.wpList_runTo rfl _ rfl _ _ (show _=_ from rfl) ?_;refine Go.Great.wpList_readTo rfl _ rfl (.slice ab r f8) (by simp[execOp,q2,go_sem]) ?_
        refine wpList_load_row rfl _ _ rfl d.heap.size rfl _ _ (0,0) _ a8 Tryz.underlying131 rfl Tryz.sizeBookingO ?_;refine Go.Great.wpList_buildSliceTo rfl _ _ 1 _ rfl _ rfl _ rfl Tryz.underlying64 #[int i64 y.name,int i64 y.who,.string y.own,.slice l y.lgn n,int i64 y.pe,int i64 y.len,int i64 y.hei,int i64 y.cl,.bool y.all,int i64 y.be,int i64 y.state,int i64 y.unt,int i64 y.price] (Eq.trans (congrArg (Program.builtSlice Tryz.prog 131 1) (show _=[(0,Value.agg #[int i64 y.name,int i64 y.who,.string y.own,.slice l y.lgn n,int i64 y.pe,int i64 y.len,int i64 y.hei,int i64 y.cl,.bool y.all,int i64 y.be,int i64 y.state,int i64 y.unt,int i64 y.price])] from by first|(simp[go_sem];done)|rfl|kernel_rfl)) (zbJ y.name y.who y.pe y.len y.hei y.cl y.be y.state y.unt y.price y.own y.all l y.lgn n)) ?_
        go_wp2_with (first|(at_builtin;refine zz _ (by rfl) (.tmp 63) (.tmp 65) 64 (by rfl) V.heap.size 131 r0 (.agg #[int i64 0,int i64 0,.string ⟨#[]⟩,.slice none 0 0,int i64 0,int i64 0,int i64 0,int i64 0,.bool false,int i64 0,int i64 0,int i64 0,int i64 0]) 13 128 Tryz.underlying64 ri r6 r7 r8 rfl (by decide) _ r _ (by rfl) Q.out.bk.row (some ⟨I.heap.size,0,none⟩) 1 1 [int i64 y.name,int i64 y.who,.string y.own,.slice l y.lgn n,int i64 y.pe,int i64 y.len,int i64 y.hei,int i64 y.cl,.bool y.all,int i64 y.be,int i64 y.state,int i64 y.unt,int i64 y.price] (by rfl) (fun h=>(by cases h)) (by rfl) (fun ad e=>by cases e;exact j2.out) (by intro u hu;simp at hu;rcases hu with rfl|rfl|rfl|rfl|rfl|rfl|rfl|rfl|rfl|rfl|rfl|rfl|rfl <;> rfl) (by unfold maxLen;omega) (by omega) i1 ?_;intro v9 w9 g8 d8;obtain⟨a9,e9,rfl,_⟩:=zt g8;have b7:=(zO d8).blk j9 (fun e=>by have:=(Q.out.bk.row.lt _ e).1;omega);have r9:=za b7 2 _ rfl;have f9:=zg b7 2))
        have i5:=Q.out.book (lim:=d.heap.size+1) e7.out (by rw[← m9.out];exact o9.out) (by omega) d8 (by unfold bkC;rw[atV_at,← m9.out];exact g8)
        have K:zA w9 (w9.setCell ⟨w.heap.size+1+1,2,none⟩ (.slice a9 (r+1) e9)) (fun b=>b=w.heap.size+1+1):=(zA.refl _ (fun b=>b=w.heap.size+1+1)).set (a:=⟨w.heap.size+1+1,2,none⟩) rfl _
        have f4:Hid (OwSt w V (w9.setCell ⟨w.heap.size+1+1,2,none⟩ (.slice a9 (r+1) e9)) _ _ _ k t (r+1) x L C A B D _):=⟨zgI b7 (.slice a9 (r+1) e9),i5.box K b7 (by decide),(l7.out.trans (zA.of_below d6)).trans (((zO d8).mono (fun b e=>.inr (Q.out.bk.row.lt b e).1)).trans (K.mono (fun b e=>.inl e)))⟩
        clear i5 K;go_wp2;go_roundw
        case rel=>exact⟨r+1,_,_,by omega,by go_num,f4.out⟩
        case measure=>simp[intOf];omega
      ·obtain rfl:r=R:=by omega
       have g0:=m.out.kp.blk o0.out (fun e=>by have e:w.heap.size+1=w.heap.size+1+1∨V.heap.size<=w.heap.size+1:=e;omega)
       have n2:=m.out.q;obtain⟨y0,y1,y2⟩:=ce3 n2;obtain⟨s0,s1,s2⟩:=ce3 g0;obtain⟨f0,f1,f2⟩:=fe3 g0;have k7:=zfK d (w.heap.size+1) (.slice av k cv) (.slice ae t ce) (.slice ab r f8);have rF:=zbI g0 (.slice av k cv) (.slice ae t ce) (.slice ab r f8);have o8:Hid _:=(m.out.own.box k7 g0 (by decide)).lower G.size
       have o7:Hid (Below w.heap.size w _):=zA.below f f.size k7 (fun b e=>by have e:b=w.heap.size+1:=e;omega)
       clear k7 n2 g0;go_wp2;obtain⟨z0,z1,z2⟩:=ce3 rF;exact bodyPost_ret (v:=.agg #[.slice av k cv,.slice ae t ce,.slice ab r f8]) (by simp[results,Tryz.results101,go_sem,z0,z1,z2]) rfl ⟨⟨av,cv,ae,ce,ab,f8,L,C,A,B,D,E,rfl,o8.out⟩,o7.out⟩
theorem zhE (x lo a:Int)(w:World)(b:lo<=x)(c:x<=a) :
  Calls Tryz.prog 19 #[int i64 x,int i64 lo,int i64 a] w fun e w'=>e=.returned (.bool true)/\w'=w:=by
 have e1:decide (lo<=x)=true:=by simpa using b
 have e2:decide (x<=a)=true:=by simpa using c
 go_enter Tryz.func19,Tryz.ntmps19;go_wp2;go_ret;exact⟨rfl,rfl⟩
theorem l1In_low (x lo b:Int)(w:World)(a:x<lo) :
  Calls Tryz.prog 19 #[int i64 x,int i64 lo,int i64 b] w fun e w'=>e=.returned (.bool false)/\w'=w:=by
 have e1:decide (lo<=x)=false:=by simpa using a
 go_enter Tryz.func19,Tryz.ntmps19;go_wp2;go_ret;exact⟨rfl,rfl⟩
theorem l1In_high (x lo a:Int)(w:World)(b:lo<=x)(c:a<x) :
  Calls Tryz.prog 19 #[int i64 x,int i64 lo,int i64 a] w fun e w'=>e=.returned (.bool false)/\w'=w:=by
 have e1:decide (lo<=x)=true:=by simpa using b
 have e2:decide (x<=a)=false:=by simpa using c
 go_enter Tryz.func19,Tryz.ntmps19;go_wp2;go_ret;exact⟨rfl,rfl⟩
theorem l1In_no (x lo a:Int)(w:World)(h:¬ (lo<=x/\x<=a)) :
  Calls Tryz.prog 19 #[int i64 x,int i64 lo,int i64 a] w fun e w'=>e=.returned (.bool false)/\w'=w:=by
 by_cases h1:lo<=x
 ·exact l1In_high x lo a w h1 (by omega)
 ·exact l1In_low x lo a w (by omega)
theorem zx (x lo a:Int)(w:World) :
  Calls Tryz.prog 19 #[int i64 x,int i64 lo,int i64 a] w fun e w'=>e=.returned (.bool (decide (In x lo a)))/\w'=w:=by
 by_cases h:In x lo a
 ·rw[decide_eq_true h];exact zhE x lo a w h.1 h.2
 ·rw[decide_eq_false h];exact l1In_no x lo a w h
theorem zhW (s:ByteArray)(w:World)(hs:s.size<=1000000000000000) :
  Calls Tryz.prog 42 #[.string s] w fun e w'=>SaysIf (qK s) e/\w'=w:=by
 by_cases h0:In (s.size:Int) 1 12
 ·have d:=hI h0
  have t:decide (In (s.size:Int) 1 12)=true:=decide_eq_true h0;have z:s.size<=12:=by have:=h0.2;omega
  clear h0;go_enter Tryz.func42,Tryz.ntmps42;go_wp2_with (first|(go_at_call 19;refine sC (zx _ _ _ _) ?_))
  go_loop [3,4] (fun i _=>∃ k:Nat,k<=s.size/\i=int i64 k/\∀ j,j<k->Qx (zbs s j)) (fun i _=>s.size - (intOf i).toNat)
  case atStart=>exact⟨0,Nat.zero_le _,rfl,fun j x=>by omega⟩
  case round =>
   obtain⟨k,hk,rfl,a⟩:=hrel;have o:=hI a;clear a
   by_cases hlt:k<s.size
   ·have l:=zbG s k hlt
    obtain⟨y,m⟩:∃ y,y=zbs s k:=⟨_,rfl⟩;rw[← m] at l;have p:=hI m;clear m;have c:Qx y->(∃ n,n<=s.size/\Value.int .i64 ((k:Int)+1)=Value.int .i64 (n:Int)/\∀ j,j<n->Qx (zbs s j)):=fun g=>⟨k+1,by omega,by simp,fun j x=>by
     by_cases e:j=k
     ·subst e;rw[← p.out];exact g
     ·exact o.out j (by omega)⟩
    have b:=hI c;have f:Hid (¬ Qx y->¬ qK s):=fun g h=>g (by rw[p.out];exact h.2.2 k hlt)
    clear c
    by_cases h1:97<=y
    ·have u:decide (97<=y)=true:=by simpa using h1
     by_cases h2:y<=122
     ·have v:decide (y<=122)=true:=by simpa using h2
      go_wp2;go_round
      case rel=>exact b.out (.inl ⟨h1,h2⟩)
      case measure=>simp[intOf];omega
     ·have v:decide (y<=122)=false:=by simpa using h2
      have q:decide (65<=y)=true:=by simp;omega
      have r:decide (y<=90)=false:=by simp;omega
      go_wp2;go_ret;exact⟨zC (f.out (by rintro(h|h) <;> omega)),rfl⟩
    ·have u:decide (97<=y)=false:=by simpa using h1
     by_cases h3:65<=y
     ·have q:decide (65<=y)=true:=by simpa using h3
      by_cases h4:y<=90
      ·have r:decide (y<=90)=true:=by simpa using h4
       go_wp2;go_round
       case rel=>exact b.out (.inr ⟨h3,h4⟩)
       case measure=>simp[intOf];omega
      ·have r:decide (y<=90)=false:=by simpa using h4
       go_wp2;go_ret;exact⟨zC (f.out (by rintro(h|h) <;> omega)),rfl⟩
     ·have q:decide (65<=y)=false:=by simpa using h3
      go_wp2;go_ret;exact⟨zC (f.out (by rintro(h|h) <;> omega)),rfl⟩
   ·obtain rfl:k=s.size:=by omega
    go_wp2;go_ret;exact⟨says_yes ⟨by have:=d.out.1;omega,by have:=d.out.2;omega,o.out⟩,rfl⟩
 ·have d:=hI h0
  have t:decide (In (s.size:Int) 1 12)=false:=decide_eq_false h0;clear h0;go_enter Tryz.func42,Tryz.ntmps42;go_wp2_with (first|(go_at_call 19;refine sC (zx _ _ _ _) ?_))
  go_ret;exact⟨zC (fun h=>d.out ⟨by have:=h.1;omega,by have:=h.2.1;omega⟩),rfl⟩
theorem qz (s:ByteArray)(w:World)(a:s.size<=1000000000000000) :
  Calls Tryz.prog 42 #[.string s] w fun e w'=>e=.returned (.bool (decide (qK s)))/\w'=w:=by
 refine(zhW s w a).mono ?_;rintro e w' ⟨⟨b',rfl,h⟩,rfl⟩;rw[bool_eq h (decide_eq_true_iff (p:=qK s))];exact⟨rfl,rfl⟩
end Go.Proofs.YtfallpinmhbemaaGreatDoor

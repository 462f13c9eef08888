/-
  OWN TEXT: DrawU.
-/
import Derived.Deep.AppendLies
import Derived.Deep.RegionLawGrows
import Derived.Deep.DeepCutAuto
import Derived.Deep.DrawnRows
import Derived.Deep.CutBlock
import Derived.Test.YtgmdnkngnhkgbaaGreatB04
namespace Go.Proofs.YtgmdnkngnhkgbaaGreat
section
open Go.RowKit
attribute [local go_sem ↓] Go.wp_at_zero Go.wp_at_succ
theorem blk_drewn {w:World} {b:Nat} {o:Obj} (h:w.heap[b]?=some o):w.drew.heap[b]?=some o:=h
theorem second_new (w:World) (o p:Obj):((w.alloc o).alloc p).heap[w.heap.size+1]?=some p:=by simpa using heap_alloc_new (w.alloc o) p
theorem port_size {i:Nat} (hi:i<4):(zU i).size≤13:=by
 have h4:i=0∨i=1∨i=2∨i=3:=by omega
 rcases h4 with rfl | rfl | rfl | rfl <;> decide
set_option maxHeartbeats 256000000 in
set_option maxRecDepth 100000 in
theorem sailing_any (cb:Nat) (ao:Option Addr) (n c p s:Nat) (id:Int) (w:World) (hp:p≤100000000000000) (hn:n≤1048576) (h:CurAt w cb ao n c p s) :
  Calls Tryz.prog 95 #[.pointer (some ⟨cb,0,none⟩),.int .i64 id] w fun e w'=>(∃ (x:Sail) (vl vc:Value),e=.returned (.agg #[.int .i64 x.id,.string x.fr,.string x.dst,.int .i64 x.dep,.int .i64 x.arr,vl,vc,.int .i64 x.most])∧Hid (w'.ownsRow w.heap.size 88 2 vl x.la.n (zR x.la)∧w'.ownsRow w.heap.size 96 2 vc x.ca.n (zR x.ca)∧ShortS x 100))∧CurX w' cb ao n c (p+10000000000000)∧zA w w' (fun b=>b=cb):=by
 have hcb:cb<w.heap.size:=zQ h.box
 have HCL:Hid (CodeLow w ao n):=fun k hk b off e=>by
  obtain ⟨b',off',v,e',_,hc,_⟩:=h.code k hk
  rw [e] at e'
  cases e'
  exact World.block_lt_of_cell? w _ hc
 have hr0:=heap_alloc_new w (.cells #[.int .i64 0,.string ⟨#[]⟩,.string ⟨#[]⟩,.int .i64 0,.int .i64 0,.slice none 0 0,.slice none 0 0,.int .i64 0] 33)
 have hb0:Below w.heap.size w (w.alloc (.cells #[.int .i64 0,.string ⟨#[]⟩,.string ⟨#[]⟩,.int .i64 0,.int .i64 0,.slice none 0 0,.slice none 0 0,.int .i64 0] 33)):=zl (Below.refl _ _) _
 have h0:=h.below hb0
 go_enter Tryz.func95,Tryz.ntmps95
 go_upto_region 1 with fail
 generalize w.alloc (.cells #[.int .i64 0,.string ⟨#[]⟩,.string ⟨#[]⟩,.int .i64 0,.int .i64 0,.slice none 0 0,.slice none 0 0,.int .i64 0] 33)=w0 at hr0 hb0 h0 ⊢
 have hs0:w.heap.size<w0.heap.size:=zQ hr0
 go_wp2_with fail
 refine (portX cb ao n c p s _ (by omega) h0).mono ?_
 rintro e w1 ⟨i,s1,rfl,hi,_,hc1,hk1⟩
 go_wp2_with fail
 refine (portX cb ao n c (p+1) s1 _ (by omega) hc1).mono ?_
 rintro e w2 ⟨j,s2,rfl,hj,_,hc2,hk2⟩
 go_wp2_with fail
 refine (pickX cb ao n c (p+1+1) s2 60 _ (by omega) (by omega) (by omega) hc2).mono ?_
 rintro e w3 ⟨dep,s3,rfl,hdep,_,hc3,hk3⟩
 go_wp2_with fail
 refine (pickX cb ao n c (p+1+1+1) s3 20 _ (by omega) (by omega) (by omega) hc3).mono ?_
 rintro e w4 ⟨mo,s4,rfl,hmo,_,hc4,hk4⟩
 have hk04:=((hk1.trans hk2).trans hk3).trans hk4
 have hs4:=hk04.size
 have hr4:=hk04.blk hr0 (by omega)
 have hk4':zA w w4 (fun b=>b=cb):=(zA.of_below hb0).trans hk04
 have hbx:=heap_alloc_new w4 (.cells #[.int .i64 id,.string (zU i),.string (zU j),.int .i64 (dep:Int),.int .i64 0,.slice none 0 0,.slice none 0 0,.int .i64 (2+(mo:Int))] 33)
 have hpx:Below w4.heap.size w4 (w4.alloc (.cells #[.int .i64 id,.string (zU i),.string (zU j),.int .i64 (dep:Int),.int .i64 0,.slice none 0 0,.slice none 0 0,.int .i64 (2+(mo:Int))] 33)):=zl (Below.refl _ _) _
 have hwm:IntKind.i64.wrap (2+(mo:Int))=2+(mo:Int):=by rw [IntKind.wrap_i64];omega
 go_upto_block 0 with fail
 have hS5:SSit w (w4.alloc (.cells #[.int .i64 id,.string (zU i),.string (zU j),.int .i64 (dep:Int),.int .i64 0,.slice none 0 0,.slice none 0 0,.int .i64 (2+(mo:Int))] 33)) w4.heap.size cb ao n c (p+1+1+1+1) s4 id (zU i) (zU j) dep 0 (.slice none 0 0) (.slice none 0 0) (2+(mo:Int)):=⟨by omega,hbx,⟨_,rfl,zb hr4 hpx⟩,hc4.below hpx,hk4'.trans (zA.of_below hpx)⟩
 generalize w4.alloc (.cells #[.int .i64 id,.string (zU i),.string (zU j),.int .i64 (dep:Int),.int .i64 0,.slice none 0 0,.slice none 0 0,.int .i64 (2+(mo:Int))] 33)=w5 at hS5 ⊢
 generalize w4.heap.size=xb at hS5 ⊢
 generalize hp4:p+1+1+1+1=p4 at *
 clear hbx hpx hr4 hk04 hk4' hs4 h0 hc1 hc2 hc3 hc4 hk1 hk2 hk3 hk4 hwm h hr0 hb0 hs0
 have hB:p4+(if j=i then 2*leftOf n p4 i s4+2 else 0)≤p+5000000000000:=by
  have:=leftOf_le n p4 i s4
  split <;> omega
 go_cut [] (fun wx=>∃ p' s' j',j'<4∧p'≤p+5000000000000∧SSit w wx xb cb ao n c p' s' id (zU i) (zU j') dep 0 (.slice none 0 0) (.slice none 0 0) (2+(mo:Int)))
 case first =>
  as_aux_lemma =>
   go_wp2_with fail
   go_loopw [] (fun wr=>∃ p' s' j',j'<4∧p'+(if j'=i then 2*leftOf n p' i s'+2 else 0)≤p+5000000000000∧SSit w wr xb cb ao n c p' s' id (zU i) (zU j') dep 0 (.slice none 0 0) (.slice none 0 0) (2+(mo:Int))) (fun wr=>stillLeft n i cb xb wr)
   case atStart=>exact ⟨p4,s4,j,hj,hB,hS5⟩
   case round =>
    obtain ⟨p',s',j',hj',hB',hS⟩:=hrel
    clear hS5 hB
    have q1:=hS.c1
    have q2:=hS.c2
    by_cases hji:j'=i
    ·subst hji
     rw [if_pos rfl] at hB'
     have HM:Hid (stillLeft n j' cb xb wr=leftOf n p' j' s'+1):=by
      unfold Hid stillLeft
      rw [if_pos q2,curLeft_is hS.cur]
     go_wp2_with fail
     refine (oneX cb ao n c p' s' 20 _ (by omega) (by omega) (by omega) hS.cur).mono ?_
     rintro e w6 ⟨b,s6,rfl,hx6,hc6,hk6⟩
     have hS6:=hS.on hcb hc6 hk6
     clear q1 q2 hS hk6
     cases b with
     | true =>
      go_wp2
      go_meet
      exact ⟨_,_,_,hj',by omega,hS6⟩
     | false =>
      go_wp2_with fail
      refine (portX cb ao n c (p'+1) s6 _ (by omega) hc6).mono ?_
      rintro e w7 ⟨k,s7,rfl,hk4,hx7,hc7,hk7⟩
      have hS7:=hS6.on hcb hc7 hk7
      have o0:=hS7.c2
      have f0:=ze hS7.box 2
      have hS8:=hS7.dst hcb HCL.out (zU k)
      have HS8:Hid _:=hS8
      clear hS6 hS7 hc6 hc7 hk7
      go_wp2
      go_roundw
      case rel =>
       refine ⟨p'+1+1,s7,k,hk4,?_,HS8.out⟩
       by_cases e:k=j'
       ·subst e
        rw [if_pos rfl]
        have:=leftOf_less hx6 hx7
        omega
       ·rw [if_neg e];omega
      case measure =>
       rw [HM.out]
       unfold stillLeft
       by_cases e:k=j'
       ·subst e
        rw [if_pos hS8.c2,curLeft_is hS8.cur]
        have:=leftOf_less hx6 hx7
        omega
       ·rw [if_neg (fun h=>e (portName_ne hk4 hj' (by rw [hS8.c2] at h;simpa using h)))]
        omega
    ·rw [if_neg hji] at hB'
     have e2:=portList_ne hj' hi hji
     go_wp2
     go_meet
     exact ⟨_,_,_,hj',by omega,hS⟩
 case rest =>
  obtain ⟨p',s',j',hj',hp',hS⟩:=hcut
  have hfs:(zU i).size≤13∧(zU j').size≤13:=⟨port_size hi,port_size hj'⟩
  obtain ⟨x,hx⟩:∃ x:Sail,x=⟨id,zU i,zU j',(dep:Int),0,noP,noP,2+(mo:Int)⟩:=⟨_,rfl⟩
  have hT:TSit w wc xb cb ao n c (p+5000000000000) x (.slice none 0 0) (.slice none 0 0):=by
   rw [hx]
   exact ⟨hS.lo,hS.box,hS.res,⟨p',s',hp',hS.cur⟩,hS.kept,(show wc.ownsRow _ _ 2 _ 0 [] from World.ownsRow_nil _ _ _ _),(show wc.ownsRow _ _ 2 _ 0 [] from World.ownsRow_nil _ _ _ _),hfs⟩
  have HXN:Hid (x.la.n=0∧x.ca.n=0):=by rw [hx];exact ⟨rfl,rfl⟩
  have HT:Hid (TSit w wc xb cb ao n c (p+5000000000000) x (.slice none 0 0) (.slice none 0 0)):=hT
  obtain ⟨A0,hA0⟩:∃ A0,A0=p+5000000000000:=⟨_,rfl⟩
  rw [← hA0] at HT
  have hA1:A0≤200000000000000:=by omega
  have hA2:A0+100≤p+10000000000000:=by omega
  clear hS hT hx hfs hA0 hj' hp'
  have m3:=za HT.out.box 3 _ rfl
  have m4:=za HT.out.box 4 _ rfl
  have mf4:=ze HT.out.box 4
  have HPK:Hid (∀ Z,Below wc.heap.size wc Z→Calls Tryz.prog 63 #[.pointer (some ⟨cb,0,none⟩),.int .i64 20] Z fun e w6=>∃ r:Nat,e=.returned (.int .i64 r)∧Hid (TSit w w6 xb cb ao n c (A0+1) x (.slice none 0 0) (.slice none 0 0))):=fun Z hZ=>(pickC cb ao n c A0 20 Z (by omega) (by omega) (by omega) (HT.out.cur.below hZ)).mono fun e w6 ⟨⟨r,h1,_⟩,h2,h3⟩=>⟨r,h1,(HT.out.below hZ).on hcb h2 h3⟩
  go_upto_region 4 with fail
  go_cut [] (fun wx=>∃ y,Hid (TSit w wx xb cb ao n c (A0+1) y (.slice none 0 0) (.slice none 0 0)∧y.la.n=0∧y.ca.n=0))
  case first =>
   go_region_law (first
    | (go_simp;go_at_call 63;(with_reducible refine Calls.mono (HPK.out _ ?_) ?_);(focus (repeat (first | exact Below.refl _ _ | refine Below.drew ?_ | refine zl ?_ _)));rintro e w6 ⟨r6,rfl,HT6⟩;have k3:=za HT6.out.box 3 _ rfl;have k4:=za HT6.out.box 4 _ rfl;have kf4:=ze HT6.out.box 4;dsimp only))
   all_goals
    have HT7:=HT6.out.arr hcb HCL.out (IntKind.i64.wrap (IntKind.i64.wrap (x.dep+1)+(r6:Int)))
    go_wp2
    go_meet
    exact ⟨_,HT7,HXN.out.1,HXN.out.2⟩
  case rest =>
  obtain ⟨y0,HY⟩:=hcut
  clear HPK m3 m4 mf4 HT HXN
  go_wp2_with fail
  refine (pickC cb ao n c (A0+1) 4 _ (by omega) (by omega) (by omega) HY.out.1.cur).mono ?_
  rintro e w2 ⟨⟨k0,rfl,hk0⟩,hc2,hk2⟩
  have HY2:Hid (TSit w w2 xb cb ao n c (A0+2) y0 (.slice none 0 0) (.slice none 0 0)∧y0.la.n=0∧y0.ca.n=0):=⟨HY.out.1.on hcb hc2 hk2,HY.out.2⟩
  clear hc2 hk2 HY
  go_wp2
  go_loopw [6] (fun kk wr=>∃ k:Nat,kk=.int .i64 k∧k≤3∧∃ y vl,Hid (TSit w wr xb cb ao n c (A0+2+2*(3 - k)) y vl (.slice none 0 0)∧y.la.n+k≤3∧y.ca.n=0)) (fun kk _=>(intOf kk).toNat)
  case atStart=>exact ⟨k0,rfl,by omega,y0,_,HY2.out.1.more (by omega),by have:=HY2.out.2;omega,HY2.out.2.2⟩
  case round =>
   obtain ⟨k,rfl,hk3,y,vl,HYR⟩:=hrel
   obtain ⟨la,lc,rfl,_⟩:=zr HYR.out.1.la
   have hyn:=HYR.out.2
   by_cases hk0':0<k
   ·have dk:decide ((0:Int)<(k:Int))=true:=by simp;omega
    obtain ⟨A,hA⟩:∃ A,A=A0+2+2*(3 - k):=⟨_,rfl⟩
    have HTR:Hid (TSit w wr xb cb ao n c A y (.slice la y.la.n lc) (.slice none 0 0)):=by rw [hA];exact HYR.out.1
    have hAA:A≤300000000000000:=by omega
    as_aux_lemma =>
     have HT0:Hid (TSit w wr xb cb ao n c (A) y (.slice la y.la.n lc) (.slice none 0 0)):=HTR
     have h0_5:=za HT0.out.box 5 _ rfl
     have h0f_5:=ze HT0.out.box 5
     have h0a0:=za (zc HT0.out.box (.cells #[.int .i64 200,.int .i64 300,.int .i64 400] 3)) 5 _ rfl
     have HN0:Hid (A+0≤900000000000000000):=by show A+0≤900000000000000000;omega
     have HN1:Hid (A+1≤900000000000000000):=by show A+1≤900000000000000000;omega
     have HP0:Hid (∀ V Z,Hid (TSit w V xb cb ao n c (A+0) y (.slice la y.la.n lc) (.slice none 0 0))→Below V.heap.size V Z→Calls Tryz.prog 63 #[.pointer (some ⟨cb,0,none⟩),.int .i64 12] Z fun e w6=>∃ r:Nat,e=.returned (.int .i64 r)∧r<12∧Hid (TSit w w6 xb cb ao n c (A+1) y (.slice la y.la.n lc) (.slice none 0 0))∧zA Z w6 (fun b=>b=cb)):=fun V Z hV hZ=>(pickC cb ao n c (A+0) 12 Z HN0.out (by omega) (by omega) (hV.out.cur.below hZ)).mono fun e w6 ⟨⟨r,h1,h2⟩,h3,h4⟩=>⟨r,h1,h2,(hV.out.below hZ).on hcb h3 h4,h4⟩
     have HP1:Hid (∀ V Z,Hid (TSit w V xb cb ao n c (A+1) y (.slice la y.la.n lc) (.slice none 0 0))→Below V.heap.size V Z→∀ b,Z.heap[b]?=some (.cells #[.int .i64 200,.int .i64 300,.int .i64 400] 3 (0,0))→b≠cb→Calls Tryz.prog 69 #[.pointer (some ⟨cb,0,none⟩),.slice (some ⟨b,0,none⟩) 3 3] Z fun e w6=>∃ r:Int,e=.returned (.int .i64 r)∧Hid (TSit w w6 xb cb ao n c (A+2) y (.slice la y.la.n lc) (.slice none 0 0))∧zA Z w6 (fun b=>b=cb)):=fun V Z hV hZ b hb hne=>(amongC cb ao n c (A+1) 3 [200,300,400] Z rfl HN1.out (by omega) (by omega) (hV.out.cur.below hZ) b hb hne).mono fun e w6 ⟨⟨r,h1⟩,h3,h4⟩=>⟨r,h1,(hV.out.below hZ).on hcb h3 h4,h4⟩
     obtain ⟨j0,ji,jz0,jz1,jz2⟩:=info_parts Tryz.infoLane
     go_upto_region 8 with fail
     with_reducible skip
     focus
      go_region_law (first
       | (go_simp;go_at_call 69;(with_reducible refine Calls.mono (HP1.out _ _ HT1 ?_ _ ?_ ?_) ?_);(focus (repeat (first | exact Below.refl _ _ | refine Below.drew ?_ | refine zl ?_ _)));(focus (repeat (first | with_reducible exact bI | with_reducible exact heap_alloc_new _ _ | with_reducible exact second_new _ _ _ | with_reducible refine blk_drewn ?_ | with_reducible refine zc ?_ _)));(focus (have h1:=hcb;have h2:=HT0.out.kept.size;(try have h3:=HT1.out.kept.size);omega));rintro e u2 ⟨r2,rfl,HT2,hk2⟩;have h2_5:=za HT2.out.box 5 _ rfl;have h2n:=za (zc HT2.out.box (.cells #[.int .i64 (500+100*(r1:Int)),.int .i64 r2] 88)) 5 _ rfl;clear hk2;dsimp only)
       | (go_simp;go_at_call 63;(with_reducible refine Calls.mono (HP0.out _ _ HT0 ?_) ?_);(focus (repeat (first | exact Below.refl _ _ | refine Below.drew ?_ | refine zl ?_ _)));rintro e u1 ⟨r1,rfl,hr1,HT1,hk1⟩;(first | (refine (fun (bI:u1.heap[wr.heap.size]?=some (.cells #[.int .i64 200,.int .i64 300,.int .i64 400] 3 (0,0)))=>?_) (hk1.blk ?_ ?_);rotate_left;(focus (repeat (first | with_reducible exact heap_alloc_new _ _ | with_reducible exact second_new _ _ _ | with_reducible refine blk_drewn ?_ | with_reducible refine zc ?_ _)));(focus (show ¬ _=cb;have h1:=hcb;have h2:=HT0.out.kept.size;omega))) | (refine (fun (bI:u1.heap[wr.heap.size+1]?=some (.cells #[.int .i64 200,.int .i64 300,.int .i64 400] 3 (0,0)))=>?_) (hk1.blk ?_ ?_);rotate_left;(focus (repeat (first | with_reducible exact heap_alloc_new _ _ | with_reducible exact second_new _ _ _ | with_reducible refine blk_drewn ?_ | with_reducible refine zc ?_ _)));(focus (show ¬ _=cb;have h1:=hcb;have h2:=HT0.out.kept.size;omega))) | skip);have h1_5:=za HT1.out.box 5 _ rfl;have h1a0:=za (zc HT1.out.box (.cells #[.int .i64 200,.int .i64 300,.int .i64 400] 3)) 5 _ rfl;have hwA:IntKind.i64.wrap (100*(r1:Int))=100*(r1:Int):=(by rw [IntKind.wrap_i64];omega);have hwB:IntKind.i64.wrap (500+100*(r1:Int))=500+100*(r1:Int):=(by rw [IntKind.wrap_i64];omega);clear hk1;dsimp only)
       | (refine step_append_lies _ (by rfl) (.tmp 46) (.tmp 55) 30 (by rfl) w.heap.size 88 j0 (.agg #[.int .i64 0,.int .i64 0]) 2 16 Tryz.underlying30 ji jz0 jz1 jz2 rfl (by decide) _ y.la.n (zR y.la) (by rfl) (zp (zl (Below.refl _ _) _) HT2.out.la) ⟨u2.heap.size,0,none⟩ 1 1 [.int .i64 (500+100*(r1:Int)),.int .i64 r2] (by rfl) (by rfl) (World.news_of_block (heap_alloc_new u2 _)) (by intro u hu;simp only [List.mem_cons,List.not_mem_nil,or_false] at hu;rcases hu with rfl | rfl <;> rfl) (by decide) (by unfold maxLen;omega) (by omega) (by have h1:=HT2.out.kept.size;simp;omega) _ rfl ?_;intro g9 cap9 w9 ho9 hg9 _ _;have b9:=(zS hg9).blk (zc HT2.out.box (.cells #[.int .i64 (500+100*(r1:Int)),.int .i64 r2] 88)) (fun e=>own_not HT2.out.la HT2.out.box (by decide) xb e rfl);have n9:=za b9 5 _ rfl;have f9:=ze b9 5;clear b9))
      all_goals
       have HT9:=(HT2.out.below (zl (Below.refl _ _) (.cells #[.int .i64 (500+100*(r1:Int)),.int .i64 r2] 88))).lane hcb HCL.out (500+100*(r1:Int)) r2 hg9 ho9
       go_wp2
       go_roundw
       case rel=>exact ⟨k - 1,by go_num,by omega,_,_,HT9.more (by omega),by show y.la.n+1+(k - 1)≤3;omega,hyn.2⟩
       case measure=>simp [intOf];omega
   ·obtain rfl:k=0:=by omega
    obtain ⟨y1,hy1⟩:∃ y1,y1=y:=⟨_,rfl⟩
    obtain ⟨B0,hB0⟩:∃ B0,B0=A0+2+2*3:=⟨_,rfl⟩
    have HZ:Hid (TSit w wr xb cb ao n c B0 y (.slice la y.la.n lc) (.slice none 0 0)∧y.la.n≤3∧y.ca.n=0):=⟨HYR.out.1.more (by omega),by omega,HYR.out.2.2⟩
    have hB1:B0≤300000000000000:=by omega
    have hB2:B0+50≤p+10000000000000:=by omega
    clear HYR HY2 hyn hy1 hB0 hA1 hA2
    go_wp2_with fail
    refine (pickC cb ao n c B0 4 _ (by omega) (by omega) (by omega) HZ.out.1.cur).mono ?_
    rintro e v2 ⟨⟨q0,rfl,hq0⟩,hc2,hk2⟩
    have HZ2:Hid (TSit w v2 xb cb ao n c (B0+1) y (.slice la y.la.n lc) (.slice none 0 0)∧y.la.n≤3∧y.ca.n=0):=⟨HZ.out.1.on hcb hc2 hk2,HZ.out.2⟩
    clear hc2 hk2 HZ
    go_wp2
    go_loopw [7] (fun kk wr=>∃ k:Nat,kk=.int .i64 k∧k≤3∧∃ y vc,Hid (TSit w wr xb cb ao n c (B0+1+2*(3 - k)) y (.slice la y.la.n lc) vc∧y.la.n≤3∧y.ca.n+k≤3)) (fun kk _=>(intOf kk).toNat)
    case atStart=>exact ⟨q0,rfl,by omega,y,_,HZ2.out.1.more (by omega),HZ2.out.2.1,by have:=HZ2.out.2;omega⟩
    case round =>
     clear HZ2
     obtain ⟨q,rfl,hq3,y,vc,HZR⟩:=hrel
     obtain ⟨ca,cc,rfl,_⟩:=zr HZR.out.1.ca
     have hzn:=HZR.out.2
     by_cases hq0':0<q
     ·have dk:decide ((0:Int)<(q:Int))=true:=by simp;omega
      obtain ⟨A,hA⟩:∃ A,A=B0+1+2*(3 - q):=⟨_,rfl⟩
      have HTR:Hid (TSit w wr xb cb ao n c A y (.slice la y.la.n lc) (.slice ca y.ca.n cc)):=by rw [hA];exact HZR.out.1
      have hAA:A≤300000000000000:=by omega
      as_aux_lemma =>
       have HT0:Hid (TSit w wr xb cb ao n c (A) y (.slice la y.la.n lc) (.slice ca y.ca.n cc)):=HTR
       have h0_6:=za HT0.out.box 6 _ rfl
       have h0f_6:=ze HT0.out.box 6
       have HN0:Hid (A+0≤900000000000000000):=by show A+0≤900000000000000000;omega
       have HN1:Hid (A+1≤900000000000000000):=by show A+1≤900000000000000000;omega
       have HP0:Hid (∀ V Z,Hid (TSit w V xb cb ao n c (A+0) y (.slice la y.la.n lc) (.slice ca y.ca.n cc))→Below V.heap.size V Z→Calls Tryz.prog 63 #[.pointer (some ⟨cb,0,none⟩),.int .i64 2] Z fun e w6=>∃ r:Nat,e=.returned (.int .i64 r)∧r<2∧Hid (TSit w w6 xb cb ao n c (A+1) y (.slice la y.la.n lc) (.slice ca y.ca.n cc))∧zA Z w6 (fun b=>b=cb)):=fun V Z hV hZ=>(pickC cb ao n c (A+0) 2 Z HN0.out (by omega) (by omega) (hV.out.cur.below hZ)).mono fun e w6 ⟨⟨r,h1,h2⟩,h3,h4⟩=>⟨r,h1,h2,(hV.out.below hZ).on hcb h3 h4,h4⟩
       have HP1:Hid (∀ V Z,Hid (TSit w V xb cb ao n c (A+1) y (.slice la y.la.n lc) (.slice ca y.ca.n cc))→Below V.heap.size V Z→Calls Tryz.prog 63 #[.pointer (some ⟨cb,0,none⟩),.int .i64 4] Z fun e w6=>∃ r:Nat,e=.returned (.int .i64 r)∧r<4∧Hid (TSit w w6 xb cb ao n c (A+2) y (.slice la y.la.n lc) (.slice ca y.ca.n cc))∧zA Z w6 (fun b=>b=cb)):=fun V Z hV hZ=>(pickC cb ao n c (A+1) 4 Z HN1.out (by omega) (by omega) (hV.out.cur.below hZ)).mono fun e w6 ⟨⟨r,h1,h2⟩,h3,h4⟩=>⟨r,h1,h2,(hV.out.below hZ).on hcb h3 h4,h4⟩
       obtain ⟨j0,ji,jz0,jz1,jz2⟩:=info_parts Tryz.infoCabin
       go_upto_region 12 with fail
       with_reducible skip
       focus
        go_region_law (first
         | (go_simp;go_at_call 63;(with_reducible refine Calls.mono (HP1.out _ _ HT1 ?_) ?_);(focus (repeat (first | exact Below.refl _ _ | refine Below.drew ?_ | refine zl ?_ _)));rintro e u2 ⟨r2,rfl,hr2,HT2,hk2⟩;have h2_6:=za HT2.out.box 6 _ rfl;have h2n:=za (zc HT2.out.box (.cells #[.int .i64 (1+(r1:Int)),.int .i64 (1+(r2:Int))] 96)) 6 _ rfl;have hwB:IntKind.i64.wrap (1+(r2:Int))=1+(r2:Int):=(by rw [IntKind.wrap_i64];omega);clear hk2;dsimp only)
         | (go_simp;go_at_call 63;(with_reducible refine Calls.mono (HP0.out _ _ HT0 ?_) ?_);(focus (repeat (first | exact Below.refl _ _ | refine Below.drew ?_ | refine zl ?_ _)));rintro e u1 ⟨r1,rfl,hr1,HT1,hk1⟩;have h1_6:=za HT1.out.box 6 _ rfl;have hwA:IntKind.i64.wrap (1+(r1:Int))=1+(r1:Int):=(by rw [IntKind.wrap_i64];omega);clear hk1;dsimp only)
         | (refine step_append_lies _ (by rfl) (.tmp 65) (.tmp 73) 31 (by rfl) w.heap.size 96 j0 (.agg #[.int .i64 0,.int .i64 0]) 2 16 Tryz.underlying31 ji jz0 jz1 jz2 rfl (by decide) _ y.ca.n (zR y.ca) (by rfl) (zp (zl (Below.refl _ _) _) HT2.out.ca) ⟨u2.heap.size,0,none⟩ 1 1 [.int .i64 (1+(r1:Int)),.int .i64 (1+(r2:Int))] (by rfl) (by rfl) (World.news_of_block (heap_alloc_new u2 _)) (by intro u hu;simp only [List.mem_cons,List.not_mem_nil,or_false] at hu;rcases hu with rfl | rfl <;> rfl) (by decide) (by unfold maxLen;omega) (by omega) (by have h1:=HT2.out.kept.size;simp;omega) _ rfl ?_;intro g9 cap9 w9 ho9 hg9 _ _;have b9:=(zS hg9).blk (zc HT2.out.box (.cells #[.int .i64 (1+(r1:Int)),.int .i64 (1+(r2:Int))] 96)) (fun e=>own_not HT2.out.ca HT2.out.box (by decide) xb e rfl);have n9:=za b9 6 _ rfl;have f9:=ze b9 6;clear b9))
        all_goals
         have HT9:=(HT2.out.below (zl (Below.refl _ _) (.cells #[.int .i64 (1+(r1:Int)),.int .i64 (1+(r2:Int))] 96))).cab hcb HCL.out (1+(r1:Int)) (1+(r2:Int)) hg9 ho9
         go_wp2
         go_roundw
         case rel=>exact ⟨q - 1,by go_num,by omega,_,_,HT9.more (by omega),hzn.1,by show y.ca.n+1+(q - 1)≤3;omega⟩
         case measure=>simp [intOf];omega
     ·obtain rfl:q=0:=by omega
      have HE:Hid (TSit w wr xb cb ao n c (B0+7) y (.slice la y.la.n lc) (.slice ca y.ca.n cc)∧y.la.n≤3∧y.ca.n≤3):=⟨HZR.out.1.more (by omega),by omega,by omega⟩
      clear HZR hzn
      go_wp2_with fail
      refine (pickC cb ao n c (B0+7) 60 _ (by omega) (by omega) (by omega) HE.out.1.cur).mono ?_
      rintro e v3 ⟨⟨zn,rfl,hz60⟩,hc3,hk3⟩
      have HE3:Hid (TSit w v3 xb cb ao n c (B0+8) y (.slice la y.la.n lc) (.slice ca y.ca.n cc)∧y.la.n≤3∧y.ca.n≤3):=⟨HE.out.1.on hcb hc3 hk3,HE.out.2⟩
      clear hc3 hk3 HE
      go_upto_block 6 with fail
      go_cut [] (fun wx=>∃ y vl vc,Hid (TSit w wx xb cb ao n c (B0+12) y vl vc∧y.la.n≤4∧y.ca.n≤4))
      case first =>
       clear w0 w1
       obtain ⟨wr,hwr⟩:∃ z,z=v3:=⟨_,rfl⟩
       rw [← hwr] at HE3 ⊢
       clear hwr
       have hye:=HE3.out.2
       obtain ⟨A,hA⟩:∃ A,A=B0+8:=⟨_,rfl⟩
       have HTR:Hid (TSit w wr xb cb ao n c A y (.slice la y.la.n lc) (.slice ca y.ca.n cc)):=by rw [hA];exact HE3.out.1
       have hAA:A≤300000000000000:=by omega
       clear HE3
       have hzs:zn=0∨zn=1∨zn=2∨zn=3∨zn=4∨zn=5∨6≤zn:=by omega
       clear hz60
       rcases hzs with hzs | hzs | hzs | hzs | hzs | hzs | hzs
       ·skip
        as_aux_lemma =>
         have D0:((zn:Int) == 0)=true:=by rw [beq_iff_eq];omega
         clear hzs
         -- 0
         have m3:=za HTR.out.box 3 _ rfl
         go_wp2_with fail
         refine (amongC cb ao n c A 3 [y.dep,10000,10001] _ rfl (by omega) (by omega) (by omega) (HTR.out.cur.below (zl (Below.refl _ _) _)) _ (heap_alloc_new _ _) (by have h1:=HTR.out.kept.size;omega)).mono ?_
         rintro e v4 ⟨⟨r4,rfl⟩,hc4,hk4⟩
         have HT4:Hid (TSit w v4 xb cb ao n c (A+1) y (.slice la y.la.n lc) (.slice ca y.ca.n cc)):=(HTR.out.below (zl (Below.refl _ _) _)).on hcb hc4 hk4
         have k4:=za HT4.out.box 4 _ rfl
         have kf4:=ze HT4.out.box 4
         clear hc4 hk4
         have HT5:Hid _:=HT4.out.arr hcb HCL.out r4
         go_wp2
         go_meet
         exact ⟨_,_,_,HT5.out.more (by omega),by show y.la.n≤4;omega,by show y.ca.n≤4;omega⟩
       ·skip
        as_aux_lemma =>
         have D0:((zn:Int) == 0)=false:=by rw [beq_eq_false_iff_ne];omega
         have D1:((zn:Int) == 1)=true:=by rw [beq_iff_eq];omega
         clear hzs
         have HT0:Hid (TSit w wr xb cb ao n c (A) y (.slice la y.la.n lc) (.slice ca y.ca.n cc)):=HTR
         have h0_5:=za HT0.out.box 5 _ rfl
         have h0f_5:=ze HT0.out.box 5
         have h0a0:=za (zc HT0.out.box (.cells #[.int .i64 0,.int .i64 5000,.int .i64 5001] 3)) 5 _ rfl
         have h0a1:=za (zc HT0.out.box (.cells #[.int .i64 99,.int .i64 100,.int .i64 500,.int .i64 501] 3)) 5 _ rfl
         have h0a2:=za (zc (zc HT0.out.box (.cells #[.int .i64 0,.int .i64 5000,.int .i64 5001] 3)) (.cells #[.int .i64 99,.int .i64 100,.int .i64 500,.int .i64 501] 3)) 5 _ rfl
         have h0a3:=za (zc (zc HT0.out.box (.cells #[.int .i64 99,.int .i64 100,.int .i64 500,.int .i64 501] 3)) (.cells #[.int .i64 0,.int .i64 5000,.int .i64 5001] 3)) 5 _ rfl
         have HN0:Hid (A+0≤900000000000000000):=by show A+0≤900000000000000000;omega
         have HN1:Hid (A+1≤900000000000000000):=by show A+1≤900000000000000000;omega
         have HP0:Hid (∀ V Z,Hid (TSit w V xb cb ao n c (A+0) y (.slice la y.la.n lc) (.slice ca y.ca.n cc))→Below V.heap.size V Z→∀ b,Z.heap[b]?=some (.cells #[.int .i64 0,.int .i64 5000,.int .i64 5001] 3 (0,0))→b≠cb→Calls Tryz.prog 69 #[.pointer (some ⟨cb,0,none⟩),.slice (some ⟨b,0,none⟩) 3 3] Z fun e w6=>∃ r:Int,e=.returned (.int .i64 r)∧Hid (TSit w w6 xb cb ao n c (A+1) y (.slice la y.la.n lc) (.slice ca y.ca.n cc))∧zA Z w6 (fun b=>b=cb)):=fun V Z hV hZ b hb hne=>(amongC cb ao n c (A+0) 3 [0,5000,5001] Z rfl HN0.out (by omega) (by omega) (hV.out.cur.below hZ) b hb hne).mono fun e w6 ⟨⟨r,h1⟩,h3,h4⟩=>⟨r,h1,(hV.out.below hZ).on hcb h3 h4,h4⟩
         have HP1:Hid (∀ V Z,Hid (TSit w V xb cb ao n c (A+1) y (.slice la y.la.n lc) (.slice ca y.ca.n cc))→Below V.heap.size V Z→∀ b,Z.heap[b]?=some (.cells #[.int .i64 99,.int .i64 100,.int .i64 500,.int .i64 501] 3 (0,0))→b≠cb→Calls Tryz.prog 69 #[.pointer (some ⟨cb,0,none⟩),.slice (some ⟨b,0,none⟩) 4 4] Z fun e w6=>∃ r:Int,e=.returned (.int .i64 r)∧Hid (TSit w w6 xb cb ao n c (A+2) y (.slice la y.la.n lc) (.slice ca y.ca.n cc))∧zA Z w6 (fun b=>b=cb)):=fun V Z hV hZ b hb hne=>(amongC cb ao n c (A+1) 4 [99,100,500,501] Z rfl HN1.out (by omega) (by omega) (hV.out.cur.below hZ) b hb hne).mono fun e w6 ⟨⟨r,h1⟩,h3,h4⟩=>⟨r,h1,(hV.out.below hZ).on hcb h3 h4,h4⟩
         obtain ⟨j0,ji,jz0,jz1,jz2⟩:=info_parts Tryz.infoLane
         go_upto_region 17 with fail
         with_reducible skip
         focus
          go_region_law (first
           | (go_simp;go_at_call 69;(with_reducible refine Calls.mono (HP1.out _ _ HT1 ?_ _ ?_ ?_) ?_);(focus (repeat (first | exact Below.refl _ _ | refine Below.drew ?_ | refine zl ?_ _)));(focus (repeat (first | with_reducible exact bI | with_reducible exact heap_alloc_new _ _ | with_reducible exact second_new _ _ _ | with_reducible refine blk_drewn ?_ | with_reducible refine zc ?_ _)));(focus (have h1:=hcb;have h2:=HT0.out.kept.size;(try have h3:=HT1.out.kept.size);omega));rintro e u2 ⟨r2,rfl,HT2,hk2⟩;have h2_5:=za HT2.out.box 5 _ rfl;have h2n:=za (zc HT2.out.box (.cells #[.int .i64 r1,.int .i64 r2] 88)) 5 _ rfl;clear hk2;dsimp only)
           | (go_simp;go_at_call 69;(with_reducible refine Calls.mono (HP0.out _ _ HT0 ?_ _ ?_ ?_) ?_);(focus (repeat (first | exact Below.refl _ _ | refine Below.drew ?_ | refine zl ?_ _)));(focus (repeat (first | with_reducible exact bI | with_reducible exact heap_alloc_new _ _ | with_reducible exact second_new _ _ _ | with_reducible refine blk_drewn ?_ | with_reducible refine zc ?_ _)));(focus (have h1:=hcb;have h2:=HT0.out.kept.size;(try have h3:=HT0.out.kept.size);omega));rintro e u1 ⟨r1,rfl,HT1,hk1⟩;(first | (refine (fun (bI:u1.heap[wr.heap.size]?=some (.cells #[.int .i64 99,.int .i64 100,.int .i64 500,.int .i64 501] 3 (0,0)))=>?_) (hk1.blk ?_ ?_);rotate_left;(focus (repeat (first | with_reducible exact heap_alloc_new _ _ | with_reducible exact second_new _ _ _ | with_reducible refine blk_drewn ?_ | with_reducible refine zc ?_ _)));(focus (show ¬ _=cb;have h1:=hcb;have h2:=HT0.out.kept.size;omega))) | (refine (fun (bI:u1.heap[wr.heap.size+1]?=some (.cells #[.int .i64 99,.int .i64 100,.int .i64 500,.int .i64 501] 3 (0,0)))=>?_) (hk1.blk ?_ ?_);rotate_left;(focus (repeat (first | with_reducible exact heap_alloc_new _ _ | with_reducible exact second_new _ _ _ | with_reducible refine blk_drewn ?_ | with_reducible refine zc ?_ _)));(focus (show ¬ _=cb;have h1:=hcb;have h2:=HT0.out.kept.size;omega))) | skip);have h1_5:=za HT1.out.box 5 _ rfl;have h1a0:=za (zc HT1.out.box (.cells #[.int .i64 0,.int .i64 5000,.int .i64 5001] 3)) 5 _ rfl;have h1a1:=za (zc HT1.out.box (.cells #[.int .i64 99,.int .i64 100,.int .i64 500,.int .i64 501] 3)) 5 _ rfl;have h1a2:=za (zc (zc HT1.out.box (.cells #[.int .i64 0,.int .i64 5000,.int .i64 5001] 3)) (.cells #[.int .i64 99,.int .i64 100,.int .i64 500,.int .i64 501] 3)) 5 _ rfl;have h1a3:=za (zc (zc HT1.out.box (.cells #[.int .i64 99,.int .i64 100,.int .i64 500,.int .i64 501] 3)) (.cells #[.int .i64 0,.int .i64 5000,.int .i64 5001] 3)) 5 _ rfl;clear hk1;dsimp only)
           | (refine step_append_lies _ (by rfl) (.tmp 89) (.tmp 97) 30 (by rfl) w.heap.size 88 j0 (.agg #[.int .i64 0,.int .i64 0]) 2 16 Tryz.underlying30 ji jz0 jz1 jz2 rfl (by decide) _ y.la.n (zR y.la) (by rfl) (zp (zl (Below.refl _ _) _) HT2.out.la) ⟨u2.heap.size,0,none⟩ 1 1 [.int .i64 r1,.int .i64 r2] (by rfl) (by rfl) (World.news_of_block (heap_alloc_new u2 _)) (by intro u hu;simp only [List.mem_cons,List.not_mem_nil,or_false] at hu;rcases hu with rfl | rfl <;> rfl) (by decide) (by unfold maxLen;omega) (by omega) (by have h1:=HT2.out.kept.size;simp;omega) _ rfl ?_;intro g9 cap9 w9 ho9 hg9 _ _;have b9:=(zS hg9).blk (zc HT2.out.box (.cells #[.int .i64 r1,.int .i64 r2] 88)) (fun e=>own_not HT2.out.la HT2.out.box (by decide) xb e rfl);have n9:=za b9 5 _ rfl;have f9:=ze b9 5;clear b9))
          all_goals
           have HT9:=(HT2.out.below (zl (Below.refl _ _) (.cells #[.int .i64 r1,.int .i64 r2] 88))).lane hcb HCL.out r1 r2 hg9 ho9
           go_wp2
           go_meet
           exact ⟨_,_,_,HT9.more (by omega),by show y.la.n+1≤4;omega,by show y.ca.n≤4;omega⟩
       ·skip
        as_aux_lemma =>
         have D0:((zn:Int) == 0)=false:=by rw [beq_eq_false_iff_ne];omega
         have D1:((zn:Int) == 1)=false:=by rw [beq_eq_false_iff_ne];omega
         have D2:((zn:Int) == 2)=true:=by rw [beq_iff_eq];omega
         clear hzs
         have HT0:Hid (TSit w wr xb cb ao n c (A) y (.slice la y.la.n lc) (.slice ca y.ca.n cc)):=HTR
         have h0_6:=za HT0.out.box 6 _ rfl
         have h0f_6:=ze HT0.out.box 6
         have HN0:Hid (A+0≤900000000000000000):=by show A+0≤900000000000000000;omega
         have HN1:Hid (A+1≤900000000000000000):=by show A+1≤900000000000000000;omega
         have HP0:Hid (∀ V Z,Hid (TSit w V xb cb ao n c (A+0) y (.slice la y.la.n lc) (.slice ca y.ca.n cc))→Below V.heap.size V Z→Calls Tryz.prog 63 #[.pointer (some ⟨cb,0,none⟩),.int .i64 5] Z fun e w6=>∃ r:Nat,e=.returned (.int .i64 r)∧r<5∧Hid (TSit w w6 xb cb ao n c (A+1) y (.slice la y.la.n lc) (.slice ca y.ca.n cc))∧zA Z w6 (fun b=>b=cb)):=fun V Z hV hZ=>(pickC cb ao n c (A+0) 5 Z HN0.out (by omega) (by omega) (hV.out.cur.below hZ)).mono fun e w6 ⟨⟨r,h1,h2⟩,h3,h4⟩=>⟨r,h1,h2,(hV.out.below hZ).on hcb h3 h4,h4⟩
         have HP1:Hid (∀ V Z,Hid (TSit w V xb cb ao n c (A+1) y (.slice la y.la.n lc) (.slice ca y.ca.n cc))→Below V.heap.size V Z→Calls Tryz.prog 63 #[.pointer (some ⟨cb,0,none⟩),.int .i64 6] Z fun e w6=>∃ r:Nat,e=.returned (.int .i64 r)∧r<6∧Hid (TSit w w6 xb cb ao n c (A+2) y (.slice la y.la.n lc) (.slice ca y.ca.n cc))∧zA Z w6 (fun b=>b=cb)):=fun V Z hV hZ=>(pickC cb ao n c (A+1) 6 Z HN1.out (by omega) (by omega) (hV.out.cur.below hZ)).mono fun e w6 ⟨⟨r,h1,h2⟩,h3,h4⟩=>⟨r,h1,h2,(hV.out.below hZ).on hcb h3 h4,h4⟩
         obtain ⟨j0,ji,jz0,jz1,jz2⟩:=info_parts Tryz.infoCabin
         go_upto_region 19 with fail
         with_reducible skip
         focus
          go_region_law (first
           | (go_simp;go_at_call 63;(with_reducible refine Calls.mono (HP1.out _ _ HT1 ?_) ?_);(focus (repeat (first | exact Below.refl _ _ | refine Below.drew ?_ | refine zl ?_ _)));rintro e u2 ⟨r2,rfl,hr2,HT2,hk2⟩;have h2_6:=za HT2.out.box 6 _ rfl;have h2n:=za (zc HT2.out.box (.cells #[.int .i64 (r1:Int),.int .i64 (r2:Int)] 96)) 6 _ rfl;clear hk2;dsimp only)
           | (go_simp;go_at_call 63;(with_reducible refine Calls.mono (HP0.out _ _ HT0 ?_) ?_);(focus (repeat (first | exact Below.refl _ _ | refine Below.drew ?_ | refine zl ?_ _)));rintro e u1 ⟨r1,rfl,hr1,HT1,hk1⟩;have h1_6:=za HT1.out.box 6 _ rfl;clear hk1;dsimp only)
           | (refine step_append_lies _ (by rfl) (.tmp 103) (.tmp 109) 31 (by rfl) w.heap.size 96 j0 (.agg #[.int .i64 0,.int .i64 0]) 2 16 Tryz.underlying31 ji jz0 jz1 jz2 rfl (by decide) _ y.ca.n (zR y.ca) (by rfl) (zp (zl (Below.refl _ _) _) HT2.out.ca) ⟨u2.heap.size,0,none⟩ 1 1 [.int .i64 (r1:Int),.int .i64 (r2:Int)] (by rfl) (by rfl) (World.news_of_block (heap_alloc_new u2 _)) (by intro u hu;simp only [List.mem_cons,List.not_mem_nil,or_false] at hu;rcases hu with rfl | rfl <;> rfl) (by decide) (by unfold maxLen;omega) (by omega) (by have h1:=HT2.out.kept.size;simp;omega) _ rfl ?_;intro g9 cap9 w9 ho9 hg9 _ _;have b9:=(zS hg9).blk (zc HT2.out.box (.cells #[.int .i64 (r1:Int),.int .i64 (r2:Int)] 96)) (fun e=>own_not HT2.out.ca HT2.out.box (by decide) xb e rfl);have n9:=za b9 6 _ rfl;have f9:=ze b9 6;clear b9))
          all_goals
           have HT9:=(HT2.out.below (zl (Below.refl _ _) (.cells #[.int .i64 (r1:Int),.int .i64 (r2:Int)] 96))).cab hcb HCL.out (r1:Int) (r2:Int) hg9 ho9
           go_wp2
           go_meet
           exact ⟨_,_,_,HT9.more (by omega),by show y.la.n≤4;omega,by show y.ca.n+1≤4;omega⟩
       ·skip
        as_aux_lemma =>
         have D0:((zn:Int) == 0)=false:=by rw [beq_eq_false_iff_ne];omega
         have D1:((zn:Int) == 1)=false:=by rw [beq_eq_false_iff_ne];omega
         have D2:((zn:Int) == 2)=false:=by rw [beq_eq_false_iff_ne];omega
         have D3:((zn:Int) == 3)=true:=by rw [beq_iff_eq];omega
         clear hzs
         -- 3
         have m3:=za HTR.out.box 3 _ rfl
         go_wp2_with fail
         refine (amongC cb ao n c A 3 [-1,500,501] _ rfl (by omega) (by omega) (by omega) (HTR.out.cur.below (zl (Below.refl _ _) _)) _ (heap_alloc_new _ _) (by have h1:=HTR.out.kept.size;omega)).mono ?_
         rintro e v4 ⟨⟨r4,rfl⟩,hc4,hk4⟩
         have HT4:Hid (TSit w v4 xb cb ao n c (A+1) y (.slice la y.la.n lc) (.slice ca y.ca.n cc)):=(HTR.out.below (zl (Below.refl _ _) _)).on hcb hc4 hk4
         have k4:=za HT4.out.box 7 _ rfl
         have kf4:=ze HT4.out.box 7
         clear hc4 hk4
         have HT5:Hid _:=HT4.out.most hcb HCL.out r4
         go_wp2
         go_meet
         exact ⟨_,_,_,HT5.out.more (by omega),by show y.la.n≤4;omega,by show y.ca.n≤4;omega⟩
       ·skip
        as_aux_lemma =>
         have D0:((zn:Int) == 0)=false:=by rw [beq_eq_false_iff_ne];omega
         have D1:((zn:Int) == 1)=false:=by rw [beq_eq_false_iff_ne];omega
         have D2:((zn:Int) == 2)=false:=by rw [beq_eq_false_iff_ne];omega
         have D3:((zn:Int) == 3)=false:=by rw [beq_eq_false_iff_ne];omega
         have D4:((zn:Int) == 4)=true:=by rw [beq_iff_eq];omega
         clear hzs
         -- 4
         go_wp2_with fail
         refine (ofC cb ao n c A 3 [⟨#[]⟩,⟨#[65,49]⟩,⟨#[97,98,99,100,101,102,103,104,105,106,107,108,109]⟩] _ rfl (by omega) (by omega) (by omega) (HTR.out.cur.below (zl (Below.refl _ _) _)) _ (heap_alloc_new _ _) (by have h1:=HTR.out.kept.size;omega)).mono ?_
         rintro e v4 ⟨⟨r4,rfl,hr4⟩,hc4,hk4⟩
         have HT4:Hid (TSit w v4 xb cb ao n c (A+1) y (.slice la y.la.n lc) (.slice ca y.ca.n cc)):=(HTR.out.below (zl (Below.refl _ _) _)).on hcb hc4 hk4
         have k4:=za HT4.out.box 1 _ rfl
         have kf4:=ze HT4.out.box 1
         clear hc4 hk4
         have hs4:r4.size≤13:=by
          have hr5:=hr4.out
          simp only [List.mem_cons,List.not_mem_nil,or_false] at hr5
          rcases hr5 with rfl | rfl | rfl <;> decide
         have HT5:Hid _:=HT4.out.frs hcb HCL.out r4 hs4
         go_wp2
         go_meet
         exact ⟨_,_,_,HT5.out.more (by omega),by show y.la.n≤4;omega,by show y.ca.n≤4;omega⟩
       ·skip
        as_aux_lemma =>
         have D0:((zn:Int) == 0)=false:=by rw [beq_eq_false_iff_ne];omega
         have D1:((zn:Int) == 1)=false:=by rw [beq_eq_false_iff_ne];omega
         have D2:((zn:Int) == 2)=false:=by rw [beq_eq_false_iff_ne];omega
         have D3:((zn:Int) == 3)=false:=by rw [beq_eq_false_iff_ne];omega
         have D4:((zn:Int) == 4)=false:=by rw [beq_eq_false_iff_ne];omega
         have D5:((zn:Int) == 5)=true:=by rw [beq_iff_eq];omega
         clear hzs
         -- 5
         have m3:=za HTR.out.box 3 _ rfl
         go_wp2_with fail
         refine (amongC cb ao n c A 3 [0,99,100] _ rfl (by omega) (by omega) (by omega) (HTR.out.cur.below (zl (Below.refl _ _) _)) _ (heap_alloc_new _ _) (by have h1:=HTR.out.kept.size;omega)).mono ?_
         rintro e v4 ⟨⟨r4,rfl⟩,hc4,hk4⟩
         have HT4:Hid (TSit w v4 xb cb ao n c (A+1) y (.slice la y.la.n lc) (.slice ca y.ca.n cc)):=(HTR.out.below (zl (Below.refl _ _) _)).on hcb hc4 hk4
         have k4:=za HT4.out.box 0 _ rfl
         have kf4:=ze HT4.out.box 0
         clear hc4 hk4
         have HT5:Hid _:=HT4.out.ids hcb HCL.out r4
         go_wp2
         go_meet
         exact ⟨_,_,_,HT5.out.more (by omega),by show y.la.n≤4;omega,by show y.ca.n≤4;omega⟩
       ·skip
        as_aux_lemma =>
         have D0:((zn:Int) == 0)=false:=by rw [beq_eq_false_iff_ne];omega
         have D1:((zn:Int) == 1)=false:=by rw [beq_eq_false_iff_ne];omega
         have D2:((zn:Int) == 2)=false:=by rw [beq_eq_false_iff_ne];omega
         have D3:((zn:Int) == 3)=false:=by rw [beq_eq_false_iff_ne];omega
         have D4:((zn:Int) == 4)=false:=by rw [beq_eq_false_iff_ne];omega
         have D5:((zn:Int) == 5)=false:=by rw [beq_eq_false_iff_ne];omega
         clear hzs
         go_wp2
         go_meet
         exact ⟨_,_,_,HTR.out.more (by omega),by omega,by omega⟩
      case rest =>
       obtain ⟨y,vl,vc,HT⟩:=hcut
       obtain ⟨la,lc,rfl,_⟩:=zr HT.out.1.la
       obtain ⟨ca,cc,rfl,_⟩:=zr HT.out.1.ca
       obtain ⟨cs,hcs,hres⟩:=HT.out.1.res
       obtain ⟨r0,r1,r2,r3,r4,r5,r6,r7,rfl⟩:=eight cs hcs
       have mb:=HT.out.1.box
       obtain ⟨m0,m1,m2,m3,m4,m5,m6,m7⟩:=ce8 mb
       obtain ⟨mf0,mf1,mf2,mf3,mf4,mf5,mf6,mf7⟩:=fe8 mb
       clear mb
       obtain ⟨y0,y1,y2,y3,y4,y5,y6,y7⟩:=ce8 hres
       obtain ⟨g0,g1,g2,g3,g4,g5,g6,g7⟩:=fe8 hres
       have rF:=box_eight hres (.int .i64 y.id) (.string y.fr) (.string y.dst) (.int .i64 y.dep) (.int .i64 y.arr) (.slice la y.la.n lc) (.slice ca y.ca.n cc) (.int .i64 y.most)
       have HF:Hid _:=TSit.done HT.out.1 hcb HCL.out (.int .i64 y.id) (.string y.fr) (.string y.dst) (.int .i64 y.dep) (.int .i64 y.arr) (.slice la y.la.n lc) (.slice ca y.ca.n cc) (.int .i64 y.most) rfl
       clear hcs hres
       go_wp2
       obtain ⟨z0,z1,z2,z3,z4,z5,z6,z7⟩:=ce8 rF
       exact bodyPost_ret (v:=.agg #[.int .i64 y.id,.string y.fr,.string y.dst,.int .i64 y.dep,.int .i64 y.arr,.slice la y.la.n lc,.slice ca y.ca.n cc,.int .i64 y.most]) (by simp [results,Tryz.results95,go_sem,z0,z1,z2,z3,z4,z5,z6,z7]) rfl ⟨⟨y,_,_,rfl,HF.out.2.2.1,HF.out.2.2.2,⟨by have:=HT.out.1.sz;omega,by have:=HT.out.1.sz;omega,by have:=HT.out.2;omega,by have:=HT.out.2;omega⟩⟩,HF.out.1.more (by omega),HF.out.2.1⟩
end
end Go.Proofs.YtgmdnkngnhkgbaaGreat

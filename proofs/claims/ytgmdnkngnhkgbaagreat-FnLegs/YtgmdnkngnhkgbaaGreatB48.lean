import Derived.Test.YtgmdnkngnhkgbaaGreatB47
namespace Go.Proofs.YtgmdnkngnhkgbaaGreat
open Go.RowKit
open Go.Value (int)
open Go.IntKind (i64)
set_option maxHeartbeats 64000000
set_option maxRecDepth 1000000
def DrewOff (w:World)(j:Nat)(k:Option Addr)(n c:Nat)(e:Ending)(w':World):Prop :=
 (∃ (x:Off) (a d f:Option Addr) (g h i:Nat) (L C A B D E:Nat->Value),e=.returned (.agg #[.slice a x.san g,.slice d x.ldn h,.slice f x.bkn i])/\x.san<=7/\x.bkn<=31/\Off.Short x 1001/\zy w' w.heap.size (.slice a x.san g) (.slice d x.ldn h) (.slice f x.bkn i) x.san x.ldn x.bkn x L C A B D E)/\CurIs w' j k n c 90000000100000/\zA w w' (fun b=>b=j)
theorem seat_more (S:Nat->Qo)(n:Nat):zJ (fun i=>if i=n then ⟨700,1⟩ else S i) (n+1)=zJ S n++[int i64 700,int i64 1]:=by
 rw[ZT,if_pos rfl,zaQ (S':=S) (fun i hi=>if_neg (by omega))]
theorem zcV {z u:World}{g k:Nat}(h:z.heap[g]?=u.heap[g]?):z.cell? ⟨g,k,none⟩=u.cell? ⟨g,k,none⟩:=by simp[World.cell?,h]
theorem zgz {N M:Nat}{S:Nat->Sail}(B:Nat)(a:100<=B)(h:ShortAll N S 100)(hM:M<=N):ShortAll M S B:=fun i hi=>by
 have g:=h i (by omega)
 exact⟨Nat.le_trans g.1 a,Nat.le_trans g.2.1 a,Nat.le_trans g.2.2.1 a,Nat.le_trans g.2.2.2 a⟩
theorem zgX (X:Nat)(Z:Option Addr)(n c a:Nat)(w:World)(ha:a<=1000000000)(hn:n<=1048576)(R:X<w.heap.size)(k9:Hid (CodeLow w Z n))(h:CurX w X Z n c a) :
  Calls Tryz.prog 26 #[.pointer (some ⟨X,0,none⟩)] w fun e w'=>DrewOff w X Z n c e w':=by
 have HL:=hI h.is.code_lt;have g0:Below w.heap.size w (w.alloc (.cells #[.slice none 0 0,.slice none 0 0,.slice none 0 0] 27)):=zl bZ _;have bR:=heap_alloc_new w (.cells #[.slice none 0 0,.slice none 0 0,.slice none 0 0] 27);have k7:(w.alloc (.cells #[.slice none 0 0,.slice none 0 0,.slice none 0 0] 27)).heap.size=w.heap.size+1:=by simp
 go_enter Tryz.func26,Tryz.ntmps26;go_wp2_with fail;generalize w.alloc (.cells #[.slice none 0 0,.slice none 0 0,.slice none 0 0] 27)=V at g0 bR k7 ⊢;have i8:Hid (CodeLow V Z n):=fun k hk b off e=>by have:=k9.out k hk b off e;omega
 refine(zew X Z n c a V ha hn (by omega) i8 (h.below g0)).mono ?_
 rintro e w1 ⟨v,N,S,L0,C0,rfl,⟨_,n2⟩,HT⟩;obtain⟨lo,lc,rfl,_,_,_⟩:=zr HT.out.lie.row;clear h i8;have g1:=HT.out.kept;have j4:=g1.blk bR (by omega)
 go_wp2_with fail;refine(zfb lo N lc S w1 (by omega) (zgz _ (by decide) HT.out.short (Nat.le_refl _)) HT.out.lie.at).mono ?_
 rintro e w2 ⟨⟨G,H,P,I,U,J,M,L,C,A,B,D,E,t,hM,rfl,hO⟩,e9⟩;have l5:=g1.size;have n9:=e9.size;have bN:=heap_alloc_new w2 (.cells #[.slice G M H,.slice P M I,.slice U 0 J] 27);have f7:Below w2.heap.size w2 (w2.alloc (.cells #[.slice G M H,.slice P M I,.slice U 0 J] 27)):=zl bZ _;have HF:Hid (zat w (w2.alloc (.cells #[.slice G M H,.slice P M I,.slice U 0 J] 27)) X Z n c 90000000000000 w2.heap.size (zdC M S) G P U H I J L C A B D E) :=
  ⟨(HT.out.cur.is.below e9).below f7,(((zA.of_below g0).trans g1).trans (zA.of_below e9)).trans (zA.of_below f7),by omega,zb (zb j4 e9) f7,bN,(hO.below f7).lower (by omega)⟩
 have j3:Hid (Off.Short (zdC M S) 1000):=zcb (by omega) (zgz _ (by decide) HT.out.short hM)
 go_wp2_with fail;generalize w2.alloc (.cells #[.slice G M H,.slice P M I,.slice U 0 J] 27)=u0 at HF ⊢;have h4:Hid (∃ (x:Off) (G P U:Option Addr) (H I J:Nat) (L C A B D E:Nat->Value),x.san<=7/\x.bkn<=30/\Off.Short x 1000/\Hid (zat w u0 X Z n c (90000000000000) w2.heap.size x G P U H I J L C A B D E)):=⟨zdC M S,G,P,U,H,I,J,L,C,A,B,D,E,by show M<=7;omega,Nat.zero_le _,j3.out,HF⟩
 clear HF j3 hO g0 e9 bR j4 g1 HT k7 l5 bN f7;generalize w2.heap.size=ob at h4 ⊢;obtain⟨x,G,P,U,H,I,J,L,C,A,B,D,E,a0,c8,O,HP⟩:=h4.out;clear h4;refine(pick_any X Z n c (90000000000000) 8 _ (by omega) (by omega) (by omega) HP.out.cur).mono ?_
 rintro e u1 ⟨⟨r8,rfl,n8⟩,Q,p⟩;have h5:=hI (HP.out.on R Q p);clear HP Q p;go_wp2_with fail;refine(one_any X Z n c (90000000000000+2) 16 _ (by omega) (by omega) (by omega) h5.out.cur).mono ?_
 rintro e u2 ⟨⟨tb,rfl⟩,Q,p⟩;have h6:=hI (h5.out.on R Q p);clear h5 Q p;go_upto_if 19 with fail;go_cut [5] (fun n5 wx=>∃ m:Nat,n5=int i64 (m:Int)/\m<=40/\Hid (zat w wx X Z n c (90000000000000+4) ob x G P U H I J L C A B D E))
 case first =>
  cases tb with
  | false =>
   go_wp2;go_meet;exact⟨r8,rfl,by omega,h6.out.more (by omega)⟩
  | true =>
   go_wp2;go_meet;exact⟨40,rfl,by omega,h6.out.more (by omega)⟩
 case rest =>
  obtain⟨m,rfl,n0,j2⟩:=hcut;clear h6;go_wp2;go_loopw [6,7,8,9] (fun kk _ _ _ wr=>∃ i:Nat,kk=int i64 (i:Int)/\1<=i/\i<=m+1/\∃ (x:Off) (G P U:Option Addr) (H I J:Nat) (L C A B D E:Nat->Value),x.san<=7/\x.bkn<=30/\Off.Short x 1000/\Hid (zat w wr X Z n c (90000000000000+4+302*i) ob x G P U H I J L C A B D E)) (fun kk _ _ _ _=>41 - (intOf kk).toNat)
  case atStart=>exact⟨1,rfl,by omega,by omega,x,G,P,U,H,I,J,L,C,A,B,D,E,a0,c8,O,j2.out.more (by omega)⟩
  case round =>
   clear j2 a0 c8 O G P U H I J L C A B D E x;obtain⟨i,rfl,n4,n6,x,G,P,U,H,I,J,L,C,A,B,D,E,a0,c8,O,HP⟩:=hrel
   by_cases hi:i<=m
   ·have d1:decide ((i:Int)<=(m:Int))=true:=decide_eq_true (by omega)
    have i0:(i:Int)<=(m:Int):=by omega
    go_upto_region 8 with fail;go_cut [7,9] (fun s7 s9 wx=>∃ b7 tb b1 b2 b3 m1 m2 m3 d1 d2 d3,s7=.pointer (some ⟨b7,0,none⟩)/\s9=.bool tb/\ob<b7/\Hid (wx.heap[b7]?=some (.cells #[.slice b1 m1 d1,.slice b2 m2 d2,.slice b3 m3 d3] 27 (0,0)))/\Hid (ZX w.heap.size x.san b1 b2 b3 m1 m2 m3 d1 d2 d3 tb wx)/\Hid (zat w wx X Z n c (90000000000000+4+302*i+300) ob x G P U H I J L C A B D E))
    case first =>
     have h3:Hid (zat w wr.drew X Z n c (90000000000000+4+302*i) ob x G P U H I J L C A B D E):=HP.out.below bZ.drew;refine qt 15 15 (fun w'=>w'.cell? ⟨ob,0,none⟩=some (.slice G x.san H)/\w'.cell? ⟨ob,1,none⟩=some (.slice P x.ldn I)/\w'.cell? ⟨ob,2,none⟩=some (.slice U x.bkn J)) rfl (by kernel_rfl) h3.out.s (fun o=>?_)
     clear HP;simp only[List.replicate_succ,List.replicate_zero];have f:Hid (R8 w wr.drew X Z n c (90000000000000+4+302*i) ob x G P U H I J L C A B D E none none none none):=⟨h3.out,fun _ e=>(by cases e),fun _ e=>(by cases e),fun _ _ _ e=>(by cases e),fun _ e=>(by cases e)⟩
     clear h3;generalize wr.drew=u0 at f o ⊢
     (refine tkN 0 (v:=?_) rfl (by kernel_rfl) (fun _ _ _ h=>h) rfl (by assumption) ?_ ?_;rotate_left;(focus(intro w' h;(try dsimp only at h);go_simp;try with_reducible rfl));simp only[Act.put,sB,sZ,sS])
     (refine tkN 1 (v:=?_) rfl (by kernel_rfl) (fun _ _ _ h=>h) rfl (by assumption) ?_ ?_;rotate_left;(focus(intro w' h;(try dsimp only at h);go_simp;try with_reducible rfl));simp only[Act.put,sB,sZ,sS])
     (refine tkN 2 (v:=?_) rfl (by kernel_rfl) (fun _ _ _ h=>h) rfl (by assumption) ?_ ?_;rotate_left;(focus(intro w' h;(try dsimp only at h);go_simp;try with_reducible rfl));simp only[Act.put,sB,sZ,sS])
     (refine tkN 3 (v:=?_) rfl (by kernel_rfl) (fun _ _ _ h=>h) rfl (by assumption) ?_ ?_;rotate_left;(focus(intro w' h;(try dsimp only at h);go_simp;try with_reducible rfl));simp only[Act.put,sB,sZ,sS])
     refine zj (rs:=[4,10,11]) (by kernel_rfl) (by simp) ?_
     refine zd.consL rfl (fun K d=>?_) (zd.consL rfl (fun K d=>?_) (zd.consL rfl (fun K d=>?_) zd.nil))
     focus
      go_simp;go_at_call 66;refine Calls.mono (f.out.op R (by omega) (by omega) (by omega)) ?_
      rintro e u1 ⟨y,ag,cg,rfl,a9,b0,f⟩;dsimp only;refine d.out _ _ f.out.f.s (fun o=>?_)
      clear d K;simp only[sZ,sS];refine zj (rs:=[5,10,11]) (by kernel_rfl) (by simp) ?_
      refine zd.consL rfl (fun K d=>?_) (zd.consL rfl (fun K d=>?_) (zd.consL rfl (fun K d=>?_) zd.nil))
      focus
       go_simp;go_at_call 65;refine Calls.mono (f.out.dop O a9 b0 _) ?_;rintro e u2 ⟨q,rfl,f⟩;dsimp only;refine d.out _ _ f.out.f.s (fun o=>?_)
       clear d K;simp only[sZ,sS]
       (refine tkN 6 (v:=?_) rfl (by kernel_rfl) (fun _ _ _ h=>h) rfl (by assumption) ?_ ?_;rotate_left;(focus(intro w' h;(try dsimp only at h);go_simp;try with_reducible rfl));simp only[Act.put,sB,sZ,sS])
       (refine tkN 7 (v:=?_) rfl (by kernel_rfl) (fun _ _ _ h=>h) rfl (by assumption) ?_ ?_;rotate_left;(focus(intro w' h;(try dsimp only at h);go_simp;try with_reducible rfl));simp only[Act.put,sB,sZ,sS])
       (refine tkN 8 (v:=?_) rfl (by kernel_rfl) (fun _ _ _ h=>h) rfl (by assumption) ?_ ?_;rotate_left;(focus(intro w' h;(try dsimp only at h);go_simp;try with_reducible rfl));simp only[Act.put,sB,sZ,sS])
       (refine tkN 9 (v:=?_) rfl (by kernel_rfl) (fun _ _ _ h=>h) rfl (by assumption) ?_ ?_;rotate_left;(focus(intro w' h;(try dsimp only at h);go_simp;try with_reducible rfl));simp only[Act.put,sB,sZ,sS])
       refine zj (rs:=[10,11]) (by kernel_rfl) (by simp) ?_
       refine zd.consL rfl (fun K d=>?_) (zd.consL rfl (fun K d=>?_) zd.nil)
       focus
        go_simp;replace f:Hid _:=f.out.al7;refine d.out _ _ f.out.f.s (fun o=>?_)
        clear d K;simp only[sZ,sS];generalize u2.alloc (.cells #[.slice none 0 0,.slice none 0 0,.slice none 0 0] 27)=u3 at f o ⊢;generalize u2.heap.size=b7 at f ⊢;refine zj (rs:=[11]) (by kernel_rfl) (by simp) ?_
        refine zd.consL rfl (fun K d=>?_) zd.nil
        focus
         go_simp;replace f:Hid _:=f.out.al8;refine d.out _ _ f.out.f.s (fun o=>?_)
         clear d K;simp only[sZ,sS];generalize u3.alloc (.cells #[int i64 0,int i64 0,int i64 0,.slice none 0 0] 116)=u4 at f o ⊢;generalize u3.heap.size=b8 at f ⊢
       rotate_left 1
       focus
        go_simp;replace f:Hid _:=f.out.al8;refine d.out _ _ f.out.f.s (fun o=>?_)
        clear d K;simp only[sZ,sS];generalize u2.alloc (.cells #[int i64 0,int i64 0,int i64 0,.slice none 0 0] 116)=u3 at f o ⊢;generalize u2.heap.size=b8 at f ⊢;refine zj (rs:=[10]) (by kernel_rfl) (by simp) ?_
        refine zd.consL rfl (fun K d=>?_) zd.nil
        focus
         go_simp;replace f:Hid _:=f.out.al7;refine d.out _ _ f.out.f.s (fun o=>?_)
         clear d K;simp only[sZ,sS];generalize u3.alloc (.cells #[.slice none 0 0,.slice none 0 0,.slice none 0 0] 27)=u4 at f o ⊢;generalize u3.heap.size=b7 at f ⊢
      rotate_left 2
      focus
       go_simp;replace f:Hid _:=f.out.al7;refine d.out _ _ f.out.f.s (fun o=>?_)
       clear d K;simp only[sZ,sS];generalize u1.alloc (.cells #[.slice none 0 0,.slice none 0 0,.slice none 0 0] 27)=u2 at f o ⊢;generalize u1.heap.size=b7 at f ⊢;refine zj (rs:=[5,11]) (by kernel_rfl) (by simp) ?_
       refine zd.consL rfl (fun K d=>?_) (zd.consL rfl (fun K d=>?_) zd.nil)
       focus
        go_simp;go_at_call 65;refine Calls.mono (f.out.dop O a9 b0 _) ?_;rintro e u3 ⟨q,rfl,f⟩;dsimp only;refine d.out _ _ f.out.f.s (fun o=>?_)
        clear d K;simp only[sZ,sS]
        (refine tkN 6 (v:=?_) rfl (by kernel_rfl) (fun _ _ _ h=>h) rfl (by assumption) ?_ ?_;rotate_left;(focus(intro w' h;(try dsimp only at h);go_simp;try with_reducible rfl));simp only[Act.put,sB,sZ,sS])
        (refine tkN 7 (v:=?_) rfl (by kernel_rfl) (fun _ _ _ h=>h) rfl (by assumption) ?_ ?_;rotate_left;(focus(intro w' h;(try dsimp only at h);go_simp;try with_reducible rfl));simp only[Act.put,sB,sZ,sS])
        (refine tkN 8 (v:=?_) rfl (by kernel_rfl) (fun _ _ _ h=>h) rfl (by assumption) ?_ ?_;rotate_left;(focus(intro w' h;(try dsimp only at h);go_simp;try with_reducible rfl));simp only[Act.put,sB,sZ,sS])
        (refine tkN 9 (v:=?_) rfl (by kernel_rfl) (fun _ _ _ h=>h) rfl (by assumption) ?_ ?_;rotate_left;(focus(intro w' h;(try dsimp only at h);go_simp;try with_reducible rfl));simp only[Act.put,sB,sZ,sS])
        refine zj (rs:=[11]) (by kernel_rfl) (by simp) ?_
        refine zd.consL rfl (fun K d=>?_) zd.nil
        focus
         go_simp;replace f:Hid _:=f.out.al8;refine d.out _ _ f.out.f.s (fun o=>?_)
         clear d K;simp only[sZ,sS];generalize u3.alloc (.cells #[int i64 0,int i64 0,int i64 0,.slice none 0 0] 116)=u4 at f o ⊢;generalize u3.heap.size=b8 at f ⊢
       rotate_left 1
       focus
        go_simp;replace f:Hid _:=f.out.al8;refine d.out _ _ f.out.f.s (fun o=>?_)
        clear d K;simp only[sZ,sS];generalize u2.alloc (.cells #[int i64 0,int i64 0,int i64 0,.slice none 0 0] 116)=u3 at f o ⊢;generalize u2.heap.size=b8 at f ⊢
      rotate_left 2
      focus
       go_simp;replace f:Hid _:=f.out.al8;refine d.out _ _ f.out.f.s (fun o=>?_)
       clear d K;simp only[sZ,sS];generalize u1.alloc (.cells #[int i64 0,int i64 0,int i64 0,.slice none 0 0] 116)=u2 at f o ⊢;generalize u1.heap.size=b8 at f ⊢;refine zj (rs:=[5,10]) (by kernel_rfl) (by simp) ?_
       refine zd.consL rfl (fun K d=>?_) (zd.consL rfl (fun K d=>?_) zd.nil)
       focus
        go_simp;go_at_call 65;refine Calls.mono (f.out.dop O a9 b0 _) ?_;rintro e u3 ⟨q,rfl,f⟩;dsimp only;refine d.out _ _ f.out.f.s (fun o=>?_)
        clear d K;simp only[sZ,sS]
        (refine tkN 6 (v:=?_) rfl (by kernel_rfl) (fun _ _ _ h=>h) rfl (by assumption) ?_ ?_;rotate_left;(focus(intro w' h;(try dsimp only at h);go_simp;try with_reducible rfl));simp only[Act.put,sB,sZ,sS])
        (refine tkN 7 (v:=?_) rfl (by kernel_rfl) (fun _ _ _ h=>h) rfl (by assumption) ?_ ?_;rotate_left;(focus(intro w' h;(try dsimp only at h);go_simp;try with_reducible rfl));simp only[Act.put,sB,sZ,sS])
        (refine tkN 8 (v:=?_) rfl (by kernel_rfl) (fun _ _ _ h=>h) rfl (by assumption) ?_ ?_;rotate_left;(focus(intro w' h;(try dsimp only at h);go_simp;try with_reducible rfl));simp only[Act.put,sB,sZ,sS])
        (refine tkN 9 (v:=?_) rfl (by kernel_rfl) (fun _ _ _ h=>h) rfl (by assumption) ?_ ?_;rotate_left;(focus(intro w' h;(try dsimp only at h);go_simp;try with_reducible rfl));simp only[Act.put,sB,sZ,sS])
        refine zj (rs:=[10]) (by kernel_rfl) (by simp) ?_
        refine zd.consL rfl (fun K d=>?_) zd.nil
        focus
         go_simp;replace f:Hid _:=f.out.al7;refine d.out _ _ f.out.f.s (fun o=>?_)
         clear d K;simp only[sZ,sS];generalize u3.alloc (.cells #[.slice none 0 0,.slice none 0 0,.slice none 0 0] 27)=u4 at f o ⊢;generalize u3.heap.size=b7 at f ⊢
       rotate_left 1
       focus
        go_simp;replace f:Hid _:=f.out.al7;refine d.out _ _ f.out.f.s (fun o=>?_)
        clear d K;simp only[sZ,sS];generalize u2.alloc (.cells #[.slice none 0 0,.slice none 0 0,.slice none 0 0] 27)=u3 at f o ⊢;generalize u2.heap.size=b7 at f ⊢
     rotate_left 6
     focus
      go_simp;replace f:Hid _:=f.out.al7;refine d.out _ _ f.out.f.s (fun o=>?_)
      clear d K;simp only[sZ,sS];generalize u0.alloc (.cells #[.slice none 0 0,.slice none 0 0,.slice none 0 0] 27)=u1 at f o ⊢;generalize u0.heap.size=b7 at f ⊢;refine zj (rs:=[4,11]) (by kernel_rfl) (by simp) ?_
      refine zd.consL rfl (fun K d=>?_) (zd.consL rfl (fun K d=>?_) zd.nil)
      focus
       go_simp;go_at_call 66;refine Calls.mono (f.out.op R (by omega) (by omega) (by omega)) ?_
       rintro e u2 ⟨y,ag,cg,rfl,a9,b0,f⟩;dsimp only;refine d.out _ _ f.out.f.s (fun o=>?_)
       clear d K;simp only[sZ,sS];refine zj (rs:=[5,11]) (by kernel_rfl) (by simp) ?_
       refine zd.consL rfl (fun K d=>?_) (zd.consL rfl (fun K d=>?_) zd.nil)
       focus
        go_simp;go_at_call 65;refine Calls.mono (f.out.dop O a9 b0 _) ?_;rintro e u3 ⟨q,rfl,f⟩;dsimp only;refine d.out _ _ f.out.f.s (fun o=>?_)
        clear d K;simp only[sZ,sS]
        (refine tkN 6 (v:=?_) rfl (by kernel_rfl) (fun _ _ _ h=>h) rfl (by assumption) ?_ ?_;rotate_left;(focus(intro w' h;(try dsimp only at h);go_simp;try with_reducible rfl));simp only[Act.put,sB,sZ,sS])
        (refine tkN 7 (v:=?_) rfl (by kernel_rfl) (fun _ _ _ h=>h) rfl (by assumption) ?_ ?_;rotate_left;(focus(intro w' h;(try dsimp only at h);go_simp;try with_reducible rfl));simp only[Act.put,sB,sZ,sS])
        (refine tkN 8 (v:=?_) rfl (by kernel_rfl) (fun _ _ _ h=>h) rfl (by assumption) ?_ ?_;rotate_left;(focus(intro w' h;(try dsimp only at h);go_simp;try with_reducible rfl));simp only[Act.put,sB,sZ,sS])
        (refine tkN 9 (v:=?_) rfl (by kernel_rfl) (fun _ _ _ h=>h) rfl (by assumption) ?_ ?_;rotate_left;(focus(intro w' h;(try dsimp only at h);go_simp;try with_reducible rfl));simp only[Act.put,sB,sZ,sS])
        refine zj (rs:=[11]) (by kernel_rfl) (by simp) ?_
        refine zd.consL rfl (fun K d=>?_) zd.nil
        focus
         go_simp;replace f:Hid _:=f.out.al8;refine d.out _ _ f.out.f.s (fun o=>?_)
         clear d K;simp only[sZ,sS];generalize u3.alloc (.cells #[int i64 0,int i64 0,int i64 0,.slice none 0 0] 116)=u4 at f o ⊢;generalize u3.heap.size=b8 at f ⊢
       rotate_left 1
       focus
        go_simp;replace f:Hid _:=f.out.al8;refine d.out _ _ f.out.f.s (fun o=>?_)
        clear d K;simp only[sZ,sS];generalize u2.alloc (.cells #[int i64 0,int i64 0,int i64 0,.slice none 0 0] 116)=u3 at f o ⊢;generalize u2.heap.size=b8 at f ⊢
      rotate_left 2
      focus
       go_simp;replace f:Hid _:=f.out.al8;refine d.out _ _ f.out.f.s (fun o=>?_)
       clear d K;simp only[sZ,sS];generalize u1.alloc (.cells #[int i64 0,int i64 0,int i64 0,.slice none 0 0] 116)=u2 at f o ⊢;generalize u1.heap.size=b8 at f ⊢;refine zj (rs:=[4]) (by kernel_rfl) (by simp) ?_
       refine zd.consL rfl (fun K d=>?_) zd.nil
       focus
        go_simp;go_at_call 66;refine Calls.mono (f.out.op R (by omega) (by omega) (by omega)) ?_
        rintro e u3 ⟨y,ag,cg,rfl,a9,b0,f⟩;dsimp only;refine d.out _ _ f.out.f.s (fun o=>?_)
        clear d K;simp only[sZ,sS]
     rotate_left 3
     focus
      go_simp;replace f:Hid _:=f.out.al8;refine d.out _ _ f.out.f.s (fun o=>?_)
      clear d K;simp only[sZ,sS];generalize u0.alloc (.cells #[int i64 0,int i64 0,int i64 0,.slice none 0 0] 116)=u1 at f o ⊢;generalize u0.heap.size=b8 at f ⊢;refine zj (rs:=[4,10]) (by kernel_rfl) (by simp) ?_
      refine zd.consL rfl (fun K d=>?_) (zd.consL rfl (fun K d=>?_) zd.nil)
      focus
       go_simp;go_at_call 66;refine Calls.mono (f.out.op R (by omega) (by omega) (by omega)) ?_
       rintro e u2 ⟨y,ag,cg,rfl,a9,b0,f⟩;dsimp only;refine d.out _ _ f.out.f.s (fun o=>?_)
       clear d K;simp only[sZ,sS];refine zj (rs:=[5,10]) (by kernel_rfl) (by simp) ?_
       refine zd.consL rfl (fun K d=>?_) (zd.consL rfl (fun K d=>?_) zd.nil)
       focus
        go_simp;go_at_call 65;refine Calls.mono (f.out.dop O a9 b0 _) ?_;rintro e u3 ⟨q,rfl,f⟩;dsimp only;refine d.out _ _ f.out.f.s (fun o=>?_)
        clear d K;simp only[sZ,sS]
        (refine tkN 6 (v:=?_) rfl (by kernel_rfl) (fun _ _ _ h=>h) rfl (by assumption) ?_ ?_;rotate_left;(focus(intro w' h;(try dsimp only at h);go_simp;try with_reducible rfl));simp only[Act.put,sB,sZ,sS])
        (refine tkN 7 (v:=?_) rfl (by kernel_rfl) (fun _ _ _ h=>h) rfl (by assumption) ?_ ?_;rotate_left;(focus(intro w' h;(try dsimp only at h);go_simp;try with_reducible rfl));simp only[Act.put,sB,sZ,sS])
        (refine tkN 8 (v:=?_) rfl (by kernel_rfl) (fun _ _ _ h=>h) rfl (by assumption) ?_ ?_;rotate_left;(focus(intro w' h;(try dsimp only at h);go_simp;try with_reducible rfl));simp only[Act.put,sB,sZ,sS])
        (refine tkN 9 (v:=?_) rfl (by kernel_rfl) (fun _ _ _ h=>h) rfl (by assumption) ?_ ?_;rotate_left;(focus(intro w' h;(try dsimp only at h);go_simp;try with_reducible rfl));simp only[Act.put,sB,sZ,sS])
        refine zj (rs:=[10]) (by kernel_rfl) (by simp) ?_
        refine zd.consL rfl (fun K d=>?_) zd.nil
        focus
         go_simp;replace f:Hid _:=f.out.al7;refine d.out _ _ f.out.f.s (fun o=>?_)
         clear d K;simp only[sZ,sS];generalize u3.alloc (.cells #[.slice none 0 0,.slice none 0 0,.slice none 0 0] 27)=u4 at f o ⊢;generalize u3.heap.size=b7 at f ⊢
       rotate_left 1
       focus
        go_simp;replace f:Hid _:=f.out.al7;refine d.out _ _ f.out.f.s (fun o=>?_)
        clear d K;simp only[sZ,sS];generalize u2.alloc (.cells #[.slice none 0 0,.slice none 0 0,.slice none 0 0] 27)=u3 at f o ⊢;generalize u2.heap.size=b7 at f ⊢
      rotate_left 2
      focus
       go_simp;replace f:Hid _:=f.out.al7;refine d.out _ _ f.out.f.s (fun o=>?_)
       clear d K;simp only[sZ,sS];generalize u1.alloc (.cells #[.slice none 0 0,.slice none 0 0,.slice none 0 0] 27)=u2 at f o ⊢;generalize u1.heap.size=b7 at f ⊢;refine zj (rs:=[4]) (by kernel_rfl) (by simp) ?_
       refine zd.consL rfl (fun K d=>?_) zd.nil
       focus
        go_simp;go_at_call 66;refine Calls.mono (f.out.op R (by omega) (by omega) (by omega)) ?_
        rintro e u3 ⟨y,ag,cg,rfl,a9,b0,f⟩;dsimp only;refine d.out _ _ f.out.f.s (fun o=>?_)
        clear d K;simp only[sZ,sS]
     all_goals
      try
       refine zj (rs:=[5]) (by kernel_rfl) (by simp) ?_
       refine zd.consL rfl (fun K d=>?_) zd.nil
       go_simp;go_at_call 65;refine Calls.mono (f.out.dop O a9 b0 _) ?_;rintro e u4 ⟨q,rfl,f⟩;dsimp only;refine d.out _ _ f.out.f.s (fun o=>?_)
       clear d K;simp only[sZ,sS]
       (refine tkN 6 (v:=?_) rfl (by kernel_rfl) (fun _ _ _ h=>h) rfl (by assumption) ?_ ?_;rotate_left;(focus(intro w' h;(try dsimp only at h);go_simp;try with_reducible rfl));simp only[Act.put,sB,sZ,sS])
       (refine tkN 7 (v:=?_) rfl (by kernel_rfl) (fun _ _ _ h=>h) rfl (by assumption) ?_ ?_;rotate_left;(focus(intro w' h;(try dsimp only at h);go_simp;try with_reducible rfl));simp only[Act.put,sB,sZ,sS])
       (refine tkN 8 (v:=?_) rfl (by kernel_rfl) (fun _ _ _ h=>h) rfl (by assumption) ?_ ?_;rotate_left;(focus(intro w' h;(try dsimp only at h);go_simp;try with_reducible rfl));simp only[Act.put,sB,sZ,sS])
       (refine tkN 9 (v:=?_) rfl (by kernel_rfl) (fun _ _ _ h=>h) rfl (by assumption) ?_ ?_;rotate_left;(focus(intro w' h;(try dsimp only at h);go_simp;try with_reducible rfl));simp only[Act.put,sB,sZ,sS])
     all_goals
      obtain⟨k8,h7⟩:=f.out.h7 b7 rfl;obtain⟨l7,h8⟩:=f.out.h8 b8 rfl;have j1:Hid (q.Ok w.heap.size x.san u4):=f.out.hn q rfl;have i9:=hI f.out.f;have c0:=hI h7;have g8:=hI h8;clear h7 h8 f;have k4:b7≠b8:=fun e=>by have h7:=c0.out;rw[e,g8.out] at h7;simp at h7
      obtain⟨q0,q1,q2⟩:=ce3 c0.out;obtain⟨i3,i4,i5⟩:=fe3 c0.out;have g3:zA u4 (((u4.setCell ⟨b7,0,none⟩ (.slice q.b1 q.m1 q.d1)).setCell ⟨b7,1,none⟩ (.slice q.b2 q.m2 q.d2)).setCell ⟨b7,2,none⟩ (.slice q.b3 q.m3 q.d3)) (fun b=>b=b7):=((((zA.refl u4 (fun b=>b=b7)).set (a:=⟨b7,0,none⟩) rfl (.slice q.b1 q.m1 q.d1)).set (a:=⟨b7,1,none⟩) rfl (.slice q.b2 q.m2 q.d2)).set (a:=⟨b7,2,none⟩) rfl (.slice q.b3 q.m3 q.d3))
      have HG:Hid _:=i9.out.other R HL.out g3 c0.out (by decide) k8
      have d9:Hid (q.Ok w.heap.size x.san (((u4.setCell ⟨b7,0,none⟩ (.slice q.b1 q.m1 q.d1)).setCell ⟨b7,1,none⟩ (.slice q.b2 q.m2 q.d2)).setCell ⟨b7,2,none⟩ (.slice q.b3 q.m3 q.d3))):=ZX.box j1.out g3 c0.out (by decide)
      have g9:Hid _:=zdE c0.out (.slice q.b1 q.m1 q.d1) (.slice q.b2 q.m2 q.d2) (.slice q.b3 q.m3 q.d3);have c9:Hid _:=g3.blk g8.out (show ¬ b8=b7 from fun e=>k4 e.symm)
      refine zj (rs:=[12]) (by kernel_rfl) (by simp) ?_
      refine zd.consL rfl (fun K d=>?_) zd.nil
      go_simp;refine d.out _ _ HG.out.s (fun o=>?_)
      clear d K i9 g3 j1 c0 g8 q0 q1 q2 i3 i4 i5;simp only[sZ,sS];generalize (((u4.setCell ⟨b7,0,none⟩ (.slice q.b1 q.m1 q.d1)).setCell ⟨b7,1,none⟩ (.slice q.b2 q.m2 q.d2)).setCell ⟨b7,2,none⟩ (.slice q.b3 q.m3 q.d3))=v7 at HG d9 g9 c9 o ⊢;obtain⟨q0,q1,q2,q3⟩:=ce4 c9.out;obtain⟨i3,i4,i5,l8⟩:=fe4 c9.out;have g4:zA v7 ((((v7.setCell ⟨b8,0,none⟩ (int i64 q.k1)).setCell ⟨b8,1,none⟩ (int i64 q.k2)).setCell ⟨b8,2,none⟩ (int i64 q.k3)).setCell ⟨b8,3,none⟩ (.slice q.b4 q.m4 q.d4)) (fun b=>b=b8):=(((((zA.refl v7 (fun b=>b=b8)).set (a:=⟨b8,0,none⟩) rfl (int i64 q.k1)).set (a:=⟨b8,1,none⟩) rfl (int i64 q.k2)).set (a:=⟨b8,2,none⟩) rfl (int i64 q.k3)).set (a:=⟨b8,3,none⟩) rfl (.slice q.b4 q.m4 q.d4))
      have HH:Hid _:=HG.out.other R HL.out g4 c9.out (by decide) l7
      have g5:Hid (q.Ok w.heap.size x.san ((((v7.setCell ⟨b8,0,none⟩ (int i64 q.k1)).setCell ⟨b8,1,none⟩ (int i64 q.k2)).setCell ⟨b8,2,none⟩ (int i64 q.k3)).setCell ⟨b8,3,none⟩ (.slice q.b4 q.m4 q.d4))):=ZX.box d9.out g4 c9.out (by decide)
      have i7:Hid _:=g4.blk g9.out k4;refine zj (rs:=[13]) (by kernel_rfl) (by simp) ?_
      refine zd.consL rfl (fun K d=>?_) zd.nil
      go_simp;refine d.out _ _ HH.out.s (fun o=>?_)
      clear d K HG g4 d9 g9 c9 q0 q1 q2 q3 i3 i4 i5 l8;simp only[sZ,sS];generalize ((((v7.setCell ⟨b8,0,none⟩ (int i64 q.k1)).setCell ⟨b8,1,none⟩ (int i64 q.k2)).setCell ⟨b8,2,none⟩ (int i64 q.k3)).setCell ⟨b8,3,none⟩ (.slice q.b4 q.m4 q.d4))=v8 at HH g5 i7 o ⊢;refine zj (rs:=[14]) (by kernel_rfl) (by simp) ?_
      refine zd.consL rfl (fun K d=>?_) zd.nil
      go_simp;refine d.out _ _ HH.out.s (fun o=>?_)
      clear d K;simp only[sZ,sS];refine qd (by kernel_rfl) ?_ _
      go_wp2;go_meet;exact⟨b7,q.tb,q.b1,q.b2,q.b3,q.m1,q.m2,q.m3,q.d1,q.d2,q.d3,rfl,rfl,k8,i7,g5,HH⟩
    case rest =>
     obtain⟨b7,tb,b1,b2,b3,m1,m2,m3,d1,d2,d3,rfl,rfl,m9,HC,HN,W⟩:=hcut;clear HP;have o0:IntKind.i64.wrap ((i:Int)+1)=((i+1:Nat):Int):=by rw[IntKind.wrap_i64];omega
     cases tb with
     | false =>
      go_wp2;go_roundw
      case rel=>exact⟨i+1,rfl,by omega,by omega,x,G,P,U,H,I,J,L,C,A,B,D,E,a0,c8,O,W.out.more (by omega)⟩
      case measure=>simp[intOf];omega
     | true =>
      rcases HN.out with h|⟨x2,L2,C2,A2,B2,D2,E2,rfl,rfl,rfl,e1,e2,e3,j5⟩
      ·cases h
      ·have c6:Hid _:=j5
       have l0:=hI e1;clear j5 HN e1;obtain⟨q0,q1,q2⟩:=ce3 HC.out;obtain⟨r0,r1,r2⟩:=ce3 W.out.box;obtain⟨f0,f1,f2⟩:=fe3 W.out.box;go_wp2;go_roundw
       case rel=>exact⟨i+1,rfl,by omega,by omega,x2,b1,b2,b3,d1,d2,d3,L2,C2,A2,B2,D2,E2,(by have:=l0.out;omega),e2,e3,(W.out.to R HL.out c6.out).more (by omega)⟩
       case measure=>simp[intOf];omega
   ·have d1:decide ((i:Int)<=(m:Int))=false:=decide_eq_false (by omega)
    have i0:¬ (i:Int)<=(m:Int):=by omega
    have h9:Hid (zat w wr X Z n c (90000000012998) ob x G P U H I J L C A B D E):=HP.out.more (by omega)
    clear HP;go_wp2_with fail;refine(pick_any X Z n c (90000000012998) 40 _ (by omega) (by omega) (by omega) h9.out.cur).mono ?_
    rintro e u3 ⟨⟨r,rfl,hr⟩,Q,p⟩;have W:=hI (h9.out.on R Q p);clear h9 Q p d1 i0;go_upto_block 2 with fail;go_cut [] (fun wx=>∃ (x:Off) (G P U:Option Addr) (H I J:Nat) (L C A B D E:Nat->Value),x.san<=7/\x.bkn<=31/\Off.Short x 1001/\Hid (zat w wx X Z n c (90000000020000) ob x G P U H I J L C A B D E))
    case first =>
     by_cases e0:r=0
     ·subst e0
      obtain⟨r0,ri,l9,m0,m5⟩:=info_parts Tryz.infoBookingO;have o1:IntKind.i64.wrap ((x.bkn:Int)+1)=(x.bkn:Int)+1:=by rw[IntKind.wrap_i64];omega
      go_upto_region 13 with fail;have b6:Hid (zbk w u3.drew X Z n c (90000000013000) ob (.slice G x.san H) (.slice P x.ldn I) (.slice U x.bkn J)):=W.out.x.below bZ.drew;have l:Hid (zy u3.drew w.heap.size (.slice G x.san H) (.slice P x.ldn I) (.slice U x.bkn J) x.san x.ldn x.bkn x L C A B D E):=W.out.own.below bZ.drew;refine qt 19 20 (fun w'=>w'.cell? ⟨ob,0,none⟩=some (.slice G x.san H)/\w'.cell? ⟨ob,1,none⟩=some (.slice P x.ldn I)/\w'.cell? ⟨ob,2,none⟩=some (.slice U x.bkn J)) rfl (by kernel_rfl) b6.out.s (fun o=>?_)
      clear W;simp only[List.replicate_succ,List.replicate_zero];generalize u3.drew=y0 at b6 l o ⊢;obtain⟨d6,g6⟩:∃ q:Nat,q=y0.heap.size:=⟨_,rfl⟩;have j0:Hid (∀ i,i<x.bkn->∀ b,(E i).ownBlock=some b->b<d6):=fun i hi b e=>by have:=((l.out.bk.legs i hi).lt b e).2;omega
      have c4:Hid (w.heap.size<=d6):=by have:=b6.out.kept.size;show w.heap.size<=d6;omega
      (refine tkL 0 (v:=?_) rfl (by kernel_rfl) (fun _ _ _ h=>h) rfl (by assumption) ?_ ?_;rotate_left;(focus(intro w' h;(try dsimp only at h);go_simp;try with_reducible rfl));simp only[Act.put,sB,sZ,sS])
      (refine tkL 1 (v:=?_) rfl (by kernel_rfl) (fun _ _ _ h=>h) rfl (by assumption) ?_ ?_;rotate_left;(focus(intro w' h;(try dsimp only at h);go_simp;try with_reducible rfl));simp only[Act.put,sB,sZ,sS])
      (refine tkL 2 (v:=?_) rfl (by kernel_rfl) (fun _ _ _ h=>h) rfl (by assumption) ?_ ?_;rotate_left;(focus(intro w' h;(try dsimp only at h);go_simp;try with_reducible rfl));simp only[Act.put,sB,sZ,sS])
      (refine tkL 3 (v:=?_) rfl (by kernel_rfl) (fun _ _ _ h=>h) rfl (by assumption) ?_ ?_;rotate_left;(focus(intro w' h;(try dsimp only at h);go_simp;try with_reducible rfl));simp only[Act.put,sB,sZ,sS])
      (refine tkL 4 (v:=?_) rfl (by kernel_rfl) (fun _ _ _ h=>h) rfl (by assumption) ?_ ?_;rotate_left;(focus(intro w' h;(try dsimp only at h);go_simp;try with_reducible rfl));simp only[Act.put,sB,sZ,sS])
      (refine tkL 5 (v:=?_) rfl (by kernel_rfl) (fun _ _ _ h=>h) rfl (by assumption) ?_ ?_;rotate_left;(focus(intro w' h;(try dsimp only at h);go_simp;try with_reducible rfl));simp only[Act.put,sB,sZ,sS])
      (refine tkL 6 (v:=?_) rfl (by kernel_rfl) (fun _ _ _ h=>h) rfl (by assumption) ?_ ?_;rotate_left;(focus(intro w' h;(try dsimp only at h);go_simp;try with_reducible rfl));simp only[Act.put,sB,sZ,sS])
      (refine tkL 7 (v:=?_) rfl (by kernel_rfl) (fun _ _ _ h=>h) rfl (by assumption) ?_ ?_;rotate_left;(focus(intro w' h;(try dsimp only at h);go_simp;try with_reducible rfl));simp only[Act.put,sB,sZ,sS])
      (refine tkL 8 (v:=?_) rfl (by kernel_rfl) (fun _ _ _ h=>h) rfl (by assumption) ?_ ?_;rotate_left;(focus(intro w' h;(try dsimp only at h);go_simp;try with_reducible rfl));simp only[Act.put,sB,sZ,sS])
      (refine tkL 10 (v:=?_) rfl (by kernel_rfl) (fun _ _ _ h=>h) rfl (by assumption) ?_ ?_;rotate_left;(focus(intro w' h;(try dsimp only at h);go_simp;try with_reducible rfl));simp only[Act.put,sB,sZ,sS])
      (refine tkL 12 (v:=?_) rfl (by kernel_rfl) (fun _ _ _ h=>h) rfl (by assumption) ?_ ?_;rotate_left;(focus(intro w' h;(try dsimp only at h);go_simp;try with_reducible rfl));simp only[Act.put,sB,sZ,sS])
      refine zj (rs:=[9]) (by kernel_rfl) (by simp) ?_
      refine zd.consL rfl (fun K d=>?_) zd.nil
      go_simp;go_at_call 67;refine Calls.mono (zdG X Z n c (90000000013000) G x.san H x.sa y0 (by omega) (by omega) b6.out.cur (fun z hk=>(l.out.cur b6.out.cur hk).sa.at) ) ?_
      rintro e y1 ⟨⟨v,k,F,n7,rfl,ho⟩,Q,p⟩;dsimp only;rw[← g6] at ho;obtain⟨av,cv,rfl,_,_,_⟩:=zr ho;have a6:=hI ho;replace l:=hI (l.out.cur b6.out.cur p);have e5:=hI (b6.out.on R Q p);refine d.out _ _ e5.out.s (fun o=>?_)
      clear d K b6 Q p ho g6;simp only[sZ,sS];refine zj (rs:=[11]) (by kernel_rfl) (by simp) ?_
      refine zd.consL rfl (fun K d=>?_) zd.nil
      go_simp;go_at_call 68;refine Calls.mono (zeK X Z n c (90000000013000+60) y1 (by omega) e5.out.cur ) ?_
      rintro e y2 ⟨⟨x0,x1,x2,x3,x4,x5,rfl⟩,Q,p⟩;dsimp only;replace a6:Hid (y2.ownsRow d6 3 1 (.slice av k cv) k (zw F k)):=p.own a6.out (fun g hg e=>by have e:g=X:=e;have:=(a6.out.lt g hg).1;have:=c4.out;omega)
      replace l:=hI (l.out.cur e5.out.cur p);have e6:=hI (e5.out.on R Q p);refine d.out _ _ e6.out.s (fun o=>?_)
      clear d K e5 Q p;simp only[sZ,sS];refine zj (rs:=[13]) (by kernel_rfl) (by simp) ?_
      refine zd.consL rfl (fun K d=>?_) zd.nil
      go_simp;go_at_call 63;refine Calls.mono (pick_any X Z n c (90000000013000+60+40) 5 y2 (by omega) (by omega) (by omega) e6.out.cur ) ?_
      rintro e y3 ⟨⟨q,rfl,hq⟩,Q,p⟩;dsimp only;replace a6:Hid (y3.ownsRow d6 3 1 (.slice av k cv) k (zw F k)):=p.own a6.out (fun g hg e=>by have e:g=X:=e;have:=(a6.out.lt g hg).1;have:=c4.out;omega)
      replace l:=hI (l.out.cur e6.out.cur p);have i1:=hI (e6.out.on R Q p);have o2:IntKind.i64.wrap (1+(q:Int))=1+(q:Int):=by rw[IntKind.wrap_i64];omega
      refine d.out _ _ i1.out.s (fun o=>?_)
      clear d K e6 Q p;simp only[sZ,sS]
      (refine tkL 14 (v:=?_) rfl (by kernel_rfl) (fun _ _ _ h=>h) rfl (by assumption) ?_ ?_;rotate_left;(focus(intro w' h;(try dsimp only at h);go_simp;try with_reducible rfl));simp only[Act.put,sB,sZ,sS])
      (refine tkL 15 (v:=?_) rfl (by kernel_rfl) (fun _ _ _ h=>h) rfl (by assumption) ?_ ?_;rotate_left;(focus(intro w' h;(try dsimp only at h);go_simp;try with_reducible rfl));simp only[Act.put,sB,sZ,sS])
      refine zj (rs:=[16]) (by kernel_rfl) (by simp) ?_
      refine zd.consL rfl (fun K d=>?_) zd.nil
      refine QF (by rfl) 25 43 1 #[(0,.tmp 56)] (by rfl) Tryz.underlying25 #[int i64 ((x.bkn:Int)+1),int i64 500,.string ⟨#[65,110,110]⟩,.slice av k cv,int i64 x0,int i64 x1,int i64 x2,int i64 x3,.bool x4,int i64 x5,int i64 (1+(q:Int)),int i64 0,int i64 0] (Eq.trans (congrArg (Program.builtSlice Tryz.prog 43 1) (show _=[(0,Value.agg #[int i64 ((x.bkn:Int)+1),int i64 500,.string ⟨#[65,110,110]⟩,.slice av k cv,int i64 x0,int i64 x1,int i64 x2,int i64 x3,.bool x4,int i64 x5,int i64 (1+(q:Int)),int i64 0,int i64 0])] from by first|(simp[go_sem];done)|rfl|kernel_rfl)) (zbo ((x.bkn:Int)+1) 500 x0 x1 x2 x3 x5 (1+(q:Int)) 0 0 ⟨#[65,110,110]⟩ x4 av k cv)) ?_
      have e7:Hid (zbk w (y3.alloc (.cells #[int i64 ((x.bkn:Int)+1),int i64 500,.string ⟨#[65,110,110]⟩,.slice av k cv,int i64 x0,int i64 x1,int i64 x2,int i64 x3,.bool x4,int i64 x5,int i64 (1+(q:Int)),int i64 0,int i64 0] 43)) X Z n c (90000000013000+60+40+2) ob (.slice G x.san H) (.slice P x.ldn I) (.slice U x.bkn J)):=i1.out.below (zl bZ _);replace l:Hid (zy (y3.alloc (.cells #[int i64 ((x.bkn:Int)+1),int i64 500,.string ⟨#[65,110,110]⟩,.slice av k cv,int i64 x0,int i64 x1,int i64 x2,int i64 x3,.bool x4,int i64 x5,int i64 (1+(q:Int)),int i64 0,int i64 0] 43)) w.heap.size (.slice G x.san H) (.slice P x.ldn I) (.slice U x.bkn J) x.san x.ldn x.bkn x L C A B D E):=l.out.below (zl bZ _);replace a6:Hid ((y3.alloc (.cells #[int i64 ((x.bkn:Int)+1),int i64 500,.string ⟨#[65,110,110]⟩,.slice av k cv,int i64 x0,int i64 x1,int i64 x2,int i64 x3,.bool x4,int i64 x5,int i64 (1+(q:Int)),int i64 0,int i64 0] 43)).ownsRow d6 3 1 (.slice av k cv) k (zw F k)):=zp (zl bZ _) a6.out;have c5:Hid (∀ j u,[int i64 ((x.bkn:Int)+1),int i64 500,.string ⟨#[65,110,110]⟩,.slice av k cv,int i64 x0,int i64 x1,int i64 x2,int i64 x3,.bool x4,int i64 x5,int i64 (1+(q:Int)),int i64 0,int i64 0][j]?=some u->(y3.alloc (.cells #[int i64 ((x.bkn:Int)+1),int i64 500,.string ⟨#[65,110,110]⟩,.slice av k cv,int i64 x0,int i64 x1,int i64 x2,int i64 x3,.bool x4,int i64 x5,int i64 (1+(q:Int)),int i64 0,int i64 0] 43)).cell? ((⟨y3.heap.size,0,none⟩:Addr).add j)=some u):=World.news_of_block (cs:=#[int i64 ((x.bkn:Int)+1),int i64 500,.string ⟨#[65,110,110]⟩,.slice av k cv,int i64 x0,int i64 x1,int i64 x2,int i64 x3,.bool x4,int i64 x5,int i64 (1+(q:Int)),int i64 0,int i64 0]) (t:=43) (fr:=(0,0)) (heap_alloc_new y3 _);refine d.out _ _ e7.out.s (fun o=>?_)
      clear d K i1;simp only[Act.put,sB,sZ,sS];generalize y3.alloc (.cells #[int i64 ((x.bkn:Int)+1),int i64 500,.string ⟨#[65,110,110]⟩,.slice av k cv,int i64 x0,int i64 x1,int i64 x2,int i64 x3,.bool x4,int i64 x5,int i64 (1+(q:Int)),int i64 0,int i64 0] 43)=y4 at e7 l a6 c5 o ⊢;refine zj (rs:=[17]) (by kernel_rfl) (by simp) ?_
      refine zd.consL rfl (fun K d=>?_) zd.nil
      refine step_append_lies _ (by rfl) (.tmp 42) (.tmp 57) 25 (by rfl) w.heap.size 43 r0 (.agg #[int i64 0,int i64 0,.string ⟨#[]⟩,.slice none 0 0,int i64 0,int i64 0,int i64 0,int i64 0,.bool false,int i64 0,int i64 0,int i64 0,int i64 0]) 13 128 Tryz.underlying25 ri l9 m0 m5 rfl (by decide) _ x.bkn (Qq x.bk E x.bkn) (by rfl) l.out.bk.row ⟨y3.heap.size,0,none⟩ 1 1 [int i64 ((x.bkn:Int)+1),int i64 500,.string ⟨#[65,110,110]⟩,.slice av k cv,int i64 x0,int i64 x1,int i64 x2,int i64 x3,.bool x4,int i64 x5,int i64 (1+(q:Int)),int i64 0,int i64 0] (by rfl) (by rfl) c5.out (by intro u hu;simp at hu;rcases hu with rfl|rfl|rfl|rfl|rfl|rfl|rfl|rfl|rfl|rfl|rfl|rfl|rfl <;> rfl) (by decide) (by unfold maxLen;omega) (by omega) e7.out.kept.size _ rfl ?_
      intro g2 b9 y5 k6 i2 j6 j9;have e8:Hid (zbk w y5 X Z n c (90000000013000+60+40+2) ob (.slice G x.san H) (.slice P x.ldn I) (.slice U x.bkn J)):=e7.out.far R HL.out (zS i2) (fun b e=>⟨(l.out.bk.row.lt b e).1,by obtain⟨cs,e2⟩:=zG l.out.bk.row b e;exact⟨cs,_,e2,by decide⟩⟩)
      have j7:bkC (Zl x.bk x.bkn (⟨(x.bkn:Int)+1,500,⟨#[65,110,110]⟩,k,F,x0,x1,x2,x3,x4,x5,1+(q:Int),0,0⟩:qi)) (atV E x.bkn (.slice av k cv)) x.bkn=[int i64 ((x.bkn:Int)+1),int i64 500,.string ⟨#[65,110,110]⟩,.slice av k cv,int i64 x0,int i64 x1,int i64 x2,int i64 x3,.bool x4,int i64 x5,int i64 (1+(q:Int)),int i64 0,int i64 0]:=by unfold bkC;rw[qA,atV_at]
      have l1:Hid _:=l.out.addBk (nb:=(⟨(x.bkn:Int)+1,500,⟨#[65,110,110]⟩,k,F,x0,x1,x2,x3,x4,x5,1+(q:Int),0,0⟩:qi)) (lv:=.slice av k cv) (v':=.slice (some ⟨g2,0,none⟩) (x.bkn+1) b9) j0.out a6.out c4.out i2 (by rw[j7];exact k6)
      refine d.out _ _ e8.out.s (fun o=>?_)
      clear d K e7 l a6 c5 k6 i2 j6 j9 j7;simp only[Act.put,sB,sZ,sS]
      (refine tkL 18 (v:=?_) rfl (by kernel_rfl) (fun _ _ _ h=>h) rfl (by assumption) ?_ ?_;rotate_left;(focus(intro w' h;(try dsimp only at h);go_simp;try with_reducible rfl));simp only[Act.put,sB,sZ,sS])
      have z2:=za e8.out.box 2 _ rfl;have i6:=ze e8.out.box 2;refine zj (rs:=[19]) (by kernel_rfl) (by simp) ?_
      refine zd.lastL rfl (fun K d=>?_)
      go_simp;refine d.out _ _ ?_;clear d K;refine qd (by kernel_rfl) ?_ _
      go_wp2;go_meet;exact⟨{ x with bkn:=x.bkn+1,bk:=Zl x.bk x.bkn (⟨(x.bkn:Int)+1,500,⟨#[65,110,110]⟩,k,F,x0,x1,x2,x3,x4,x5,1+(q:Int),0,0⟩:qi) },G,P,some ⟨g2,0,none⟩,H,I,b9,L,C,A,B,D,atV E x.bkn (.slice av k cv),a0,(by show x.bkn+1<=31;omega),(O.up (by decide)).book (B:=1001) x.bkn ⟨by show(⟨#[65,110,110]⟩:ByteArray).size<=1001;decide,by show k<=1001;omega⟩ (by omega) (fun i h1 h2=>by omega),zbk.f (x:={ x with bkn:=x.bkn+1,bk:=Zl x.bk x.bkn (⟨(x.bkn:Int)+1,500,⟨#[65,110,110]⟩,k,F,x0,x1,x2,x3,x4,x5,1+(q:Int),0,0⟩:qi) }) (e8.out.put2 R HL.out _) (l1.out.box ((zA.refl y5 (fun b=>b=ob)).set (a:=⟨ob,2,none⟩) rfl _) e8.out.box (by decide)) (by omega)⟩
     ·have d0:((r:Int) == 0)=false:=by simpa using(show ¬ (r:Int)=0 by omega)
      by_cases e1:r=1
      ·subst e1
       by_cases hl0:0<x.ldn
       ·obtain⟨s0,si,m6,m7,m8⟩:=info_parts Tryz.infoSeat
        have f8:(0:Int)<(x.ldn:Int):=by omega
        have k1:=za W.out.box 1 _ rfl;obtain⟨g,f5,f4,c7⟩:=own_addr W.out.own.ld.row (by omega)
        subst f5;obtain⟨ad,cd,hD,l2,l3,l4⟩:=zr (W.out.own.ld.se 0 hl0);have h0:=hI hD;have l:Hid (zy u3.drew w.heap.size (.slice G x.san H) (.slice (some ⟨g,0,none⟩) x.ldn I) (.slice U x.bkn J) x.san x.ldn x.bkn x L C A B D E):=W.out.own.below bZ.drew;have f9:=hI (O.2.1.2 0 hl0);obtain⟨a8,a7⟩:=zG W.out.own.ld.row g rfl;have d5:Hid (∀ z:World,z.heap[g]?=u3.heap[g]?->z.cell? ⟨g,2,none⟩=some (.slice ad (x.ld 0).sen cd)):=fun z hz=>by
         have h:=zx W.out.own.ld.row 2 (by omega) rfl
         rw[zz 3 _ 0 2 (by decide)] at h
         rw[← hD];exact(zcV hz).trans h
        have f6:w.heap.size<=g:=f4;go_upto_region 16 with fail;have Y:Hid (zbk w u3.drew X Z n c (90000000013000) ob (.slice G x.san H) (.slice (some ⟨g,0,none⟩) x.ldn I) (.slice U x.bkn J)):=W.out.x.below bZ.drew;have s:=hI (zE a7);refine qt 12 13 (fun w'=>w'.cell? ⟨ob,1,none⟩=some (.slice (some ⟨g,0,none⟩) x.ldn I)/\w'.cell? ⟨g,2,none⟩=some (.slice ad (x.ld 0).sen cd)) rfl (by kernel_rfl) ⟨Y.out.s.2.1,d5.out _ rfl⟩ (fun o=>?_)
        replace d5:Hid (∀ z:World,z.heap[g]?=some (.cells a8 55 (0,0))->z.cell? ⟨g,2,none⟩=some (.slice ad (x.ld 0).sen cd)):=fun z hz=>d5.out z (hz.trans a7.symm)
        clear W a7 k1 hD l2 l3 l4;simp only[List.replicate_succ,List.replicate_zero];generalize u3.drew=y0 at Y l s o ⊢
        (refine tkL 0 (v:=?_) rfl (by kernel_rfl) (fun _ _ _ h=>h) rfl (by assumption) ?_ ?_;rotate_left;(focus(intro w' h;(try dsimp only at h);go_simp;try with_reducible rfl));simp only[Act.put,sB,sZ,sS])
        (refine tkL 1 (v:=?_) rfl (by kernel_rfl) (fun _ _ _ h=>h) rfl (by assumption) ?_ ?_;rotate_left;(focus(intro w' h;(try dsimp only at h);go_simp;try with_reducible rfl));simp only[Act.put,sB,sZ,sS])
        (refine tkL 2 (v:=?_) rfl (by kernel_rfl) (fun _ _ _ h=>h) rfl (by assumption) ?_ ?_;rotate_left;(focus(intro w' h;(try dsimp only at h);go_simp;try with_reducible rfl));simp only[Act.put,sB,sZ,sS])
        (refine tkL 3 (v:=?_) rfl (by kernel_rfl) (fun _ _ _ h=>h) rfl (by assumption) ?_ ?_;rotate_left;(focus(intro w' h;(try dsimp only at h);go_simp;try with_reducible rfl));simp only[Act.put,sB,sZ,sS])
        (refine tkL 4 (v:=?_) rfl (by kernel_rfl) (fun _ _ _ h=>h) rfl (by assumption) ?_ ?_;rotate_left;(focus(intro w' h;(try dsimp only at h);go_simp;try with_reducible rfl));simp only[Act.put,sB,sZ,sS])
        (refine tkL 5 (v:=?_) rfl (by kernel_rfl) (fun _ _ _ h=>h) rfl (by assumption) ?_ ?_;rotate_left;(focus(intro w' h;(try dsimp only at h);go_simp;try with_reducible rfl));simp only[Act.put,sB,sZ,sS])
        (refine tkL 6 (v:=?_) rfl (by kernel_rfl) (fun _ _ _ h=>h) rfl (by assumption) ?_ ?_;rotate_left;(focus(intro w' h;(try dsimp only at h);go_simp;try with_reducible rfl));simp only[Act.put,sB,sZ,sS])
        (refine tkL 7 (v:=?_) rfl (by kernel_rfl) (fun _ _ _ h=>h) rfl (by assumption) ?_ ?_;rotate_left;(focus(intro w' h;(try dsimp only at h);go_simp;try with_reducible rfl));simp only[Act.put,sB,sZ,sS])
        refine zj (rs:=[8]) (by kernel_rfl) (by simp) ?_
        refine zd.consL rfl (fun K d=>?_) zd.nil
        go_simp;have a5:Hid (zbk w (y0.alloc (.cells #[int i64 700,int i64 1] 99)) X Z n c (90000000013000) ob (.slice G x.san H) (.slice (some ⟨g,0,none⟩) x.ldn I) (.slice U x.bkn J)):=Y.out.below (zl bZ _);replace l:Hid (zy (y0.alloc (.cells #[int i64 700,int i64 1] 99)) w.heap.size (.slice G x.san H) (.slice (some ⟨g,0,none⟩) x.ldn I) (.slice U x.bkn J) x.san x.ldn x.bkn x L C A B D E):=l.out.below (zl bZ _);have c5:Hid (∀ j u,[Value.int .i64 700,int i64 1][j]?=some u->(y0.alloc (.cells #[int i64 700,int i64 1] 99)).cell? ((⟨y0.heap.size,0,none⟩:Addr).add j)=some u):=World.news_of_block (cs:=#[int i64 700,int i64 1]) (t:=99) (fr:=(0,0)) (heap_alloc_new y0 _);replace s:Hid ((y0.alloc (.cells #[int i64 700,int i64 1] 99)).heap[g]?=some (.cells a8 55 (0,0))):=zc s.out _;refine d.out _ _ ⟨a5.out.s.2.1,d5.out _ s.out⟩ (fun o=>?_)
        clear d K Y;simp only[sZ,sS];generalize y0.alloc (.cells #[int i64 700,int i64 1] 99)=y1 at a5 l c5 s o ⊢;refine zj (rs:=[9]) (by kernel_rfl) (by simp) ?_
        refine zd.consL rfl (fun K d=>?_) zd.nil
        have n1:=f9.out.2.2;have e4:Hid (y1.ownsRow w.heap.size 99 2 (.slice ad (x.ld 0).sen cd) (x.ld 0).sen (zJ (x.ld 0).se (x.ld 0).sen)):=h0.out ▸ l.out.ld.se 0 hl0;refine step_append_lies _ (by rfl) (.tmp 72) (.tmp 74) 53 (by rfl) w.heap.size 99 s0 (.agg #[int i64 0,int i64 0]) 2 16 Tryz.underlying53 si m6 m7 m8 rfl (by decide) _ (x.ld 0).sen (zJ (x.ld 0).se (x.ld 0).sen) (by rfl) e4.out ⟨y0.heap.size,0,none⟩ 1 1 [int i64 700,int i64 1] (by rfl) (by rfl) c5.out (by intro u hu;simp at hu;rcases hu with rfl|rfl <;> rfl) (by decide) (by unfold maxLen;omega) (by omega) a5.out.kept.size _ rfl ?_
        intro g2 b9 y2 k5 c7 g7 j8;have b5:Hid (zbk w y2 X Z n c (90000000013000) ob (.slice G x.san H) (.slice (some ⟨g,0,none⟩) x.ldn I) (.slice U x.bkn J)):=a5.out.far R HL.out (zS c7) (fun b e=>⟨(e4.out.lt b e).1,by obtain⟨cs,e2⟩:=zG e4.out b e;exact⟨cs,_,e2,by decide⟩⟩)
        replace s:Hid (y2.heap[g]?=some (.cells a8 55 (0,0))):=(zS c7).blk s.out (fun e=>by obtain⟨cs,e2⟩:=zG e4.out g e;rw[s.out] at e2;simp at e2)
        have c6:Hid _:=l.out.growSe (k:=0) (u:=.slice (some ⟨g2,0,none⟩) ((x.ld 0).sen+1) b9) (T:=fun i=>if i=(x.ld 0).sen then ⟨700,1⟩ else (x.ld 0).se i) hl0 (by rw[h0.out];exact c7) (by rw[seat_more];exact k5) (fun b e=>by rw[h0.out];have e:g2=b:=Option.some.inj e;subst e;exact g7)
        refine d.out _ _ ⟨b5.out.s.2.1,d5.out _ s.out⟩ (fun o=>?_)
        clear d K a5 e4 c5 l k5 c7 g7 j8;simp only[Act.put,sB,sZ,sS]
        (refine tkL 10 (v:=?_) rfl (by kernel_rfl) (fun _ _ _ h=>h) rfl (by assumption) ?_ ?_;rotate_left;(focus(intro w' h;(try dsimp only at h);go_simp;try with_reducible rfl));simp only[Act.put,sB,sZ,sS])
        (refine tkL 11 (v:=?_) rfl (by kernel_rfl) (fun _ _ _ h=>h) rfl (by assumption) ?_ ?_;rotate_left;(focus(intro w' h;(try dsimp only at h);go_simp;try with_reducible rfl));simp only[Act.put,sB,sZ,sS])
        have z2:=d5.out _ s.out;have i6:=ze s.out 2;refine zj (rs:=[12]) (by kernel_rfl) (by simp) ?_
        refine zd.lastL rfl (fun K d=>?_)
        go_simp;refine d.out _ _ ?_;clear d K;refine qd (by kernel_rfl) ?_ _
        go_wp2;go_meet;exact⟨{ x with ld:=zcs x.ld 0 { x.ld 0 with sen:=(x.ld 0).sen+1,se:=fun i=>if i=(x.ld 0).sen then ⟨700,1⟩ else (x.ld 0).se i } },G,some ⟨g,0,none⟩,U,H,I,J,L,C,A,B,atV D 0 (.slice (some ⟨g2,0,none⟩) ((x.ld 0).sen+1) b9),E,a0,by show x.bkn<=31;omega,O.load (by decide) 0 ⟨Nat.le_trans f9.out.1 (by decide),Nat.le_trans f9.out.2.1 (by decide),Nat.succ_le_succ f9.out.2.2⟩,zbk.f (x:={ x with ld:=zcs x.ld 0 { x.ld 0 with sen:=(x.ld 0).sen+1,se:=fun i=>if i=(x.ld 0).sen then ⟨700,1⟩ else (x.ld 0).se i } }) (b5.out.far R HL.out ((zA.refl y2 (fun b=>b=g)).set (a:=⟨g,2,none⟩) rfl _) (fun b e=>by have e:b=g:=e;subst e;exact⟨f6,_,_,s.out,by decide⟩)) c6.out (by omega)⟩
       ·have f8:¬ (0:Int)<(x.ldn:Int):=by omega
        have k1:=za W.out.box 1 _ rfl;go_wp2;go_meet;exact⟨x,G,P,U,H,I,J,L,C,A,B,D,E,a0,by omega,O.up (by decide),W.out.more (by omega)⟩
      ·have d1:((r:Int) == 1)=false:=by simpa using(show ¬ (r:Int)=1 by omega)
       by_cases e2:r=2
       ·subst e2
        by_cases hb0':0<x.bkn
        ·have f8:(0:Int)<(x.bkn:Int):=by omega
         have k2:=za W.out.box 2 _ rfl;obtain⟨g,f5,f4,c7⟩:=own_addr W.out.own.bk.row (by omega)
         subst f5;obtain⟨a8,a7⟩:=zG W.out.own.bk.row g rfl;have d7:Hid (u3.cell? ⟨g,11,none⟩=some (int i64 (x.bk 0).unt)):=by
          have h:=zx W.out.own.bk.row 11 (by omega) rfl
          rw[zz 13 _ 0 11 (by decide)] at h
          exact h
         have f6:w.heap.size<=g:=f4;go_upto_region 19 with fail;have Y:Hid (zbk w u3.drew X Z n c (90000000013000) ob (.slice G x.san H) (.slice P x.ldn I) (.slice (some ⟨g,0,none⟩) x.bkn J)):=W.out.x.below bZ.drew;have l:Hid (zy u3.drew w.heap.size (.slice G x.san H) (.slice P x.ldn I) (.slice (some ⟨g,0,none⟩) x.bkn J) x.san x.ldn x.bkn x L C A B D E):=W.out.own.below bZ.drew;have s:=hI (zE a7);have d8:Hid (∀ z:World,z.heap[g]?=some (.cells a8 43 (0,0))->z.cell? ⟨g,11,none⟩=some (int i64 (x.bk 0).unt)):=fun z hz=>(zcV (hz.trans a7.symm)).trans d7.out
         refine qt 7 8 (fun w'=>w'.cell? ⟨ob,2,none⟩=some (.slice (some ⟨g,0,none⟩) x.bkn J)/\True) rfl (by kernel_rfl) ⟨Y.out.s.2.2,trivial⟩ (fun o=>?_)
         clear W a7 k2 d7;simp only[List.replicate_succ,List.replicate_zero];generalize u3.drew=y0 at Y l s o ⊢
         (refine tkL 0 (v:=?_) rfl (by kernel_rfl) (fun _ _ _ h=>h) rfl (by assumption) ?_ ?_;rotate_left;(focus(intro w' h;(try dsimp only at h);go_simp;try with_reducible rfl));simp only[Act.put,sB,sZ,sS])
         (refine tkL 1 (v:=?_) rfl (by kernel_rfl) (fun _ _ _ h=>h) rfl (by assumption) ?_ ?_;rotate_left;(focus(intro w' h;(try dsimp only at h);go_simp;try with_reducible rfl));simp only[Act.put,sB,sZ,sS])
         (refine tkL 2 (v:=?_) rfl (by kernel_rfl) (fun _ _ _ h=>h) rfl (by assumption) ?_ ?_;rotate_left;(focus(intro w' h;(try dsimp only at h);go_simp;try with_reducible rfl));simp only[Act.put,sB,sZ,sS])
         refine zj (rs:=[3]) (by kernel_rfl) (by simp) ?_
         refine zd.consL rfl (fun K d=>?_) zd.nil
         go_simp;have a5:Hid (zbk w (y0.alloc (.cells #[int i64 (-1),int i64 0,int i64 1,int i64 10001] 3)) X Z n c (90000000013000) ob (.slice G x.san H) (.slice P x.ldn I) (.slice (some ⟨g,0,none⟩) x.bkn J)):=Y.out.below (zl bZ _);replace l:Hid (zy (y0.alloc (.cells #[int i64 (-1),int i64 0,int i64 1,int i64 10001] 3)) w.heap.size (.slice G x.san H) (.slice P x.ldn I) (.slice (some ⟨g,0,none⟩) x.bkn J) x.san x.ldn x.bkn x L C A B D E):=l.out.below (zl bZ _);replace s:Hid ((y0.alloc (.cells #[int i64 (-1),int i64 0,int i64 1,int i64 10001] 3)).heap[g]?=some (.cells a8 43 (0,0))):=zc s.out _;have c4:Hid ((y0.alloc (.cells #[int i64 (-1),int i64 0,int i64 1,int i64 10001] 3)).heap[y0.heap.size]?=some (.cells #[int i64 (-1),int i64 0,int i64 1,int i64 10001] 3 (0,0))):=heap_alloc_new y0 _;have l6:X<y0.heap.size:=Y.out.cur.lt;refine d.out _ _ ⟨a5.out.s.2.2,trivial⟩ (fun o=>?_)
         clear d K Y;simp only[sZ,sS];generalize (y0.alloc (.cells #[int i64 (-1),int i64 0,int i64 1,int i64 10001] 3))=y1 at a5 l s c4 o ⊢;generalize y0.heap.size=bl at c4 l6 ⊢;refine zj (rs:=[4]) (by kernel_rfl) (by simp) ?_
         refine zd.consL rfl (fun K d=>?_) zd.nil
         go_simp;go_at_call 69;refine Calls.mono (amongL X Z n c (90000000013000) 4 [-1,0,1,10001] y1 rfl (by omega) (by omega) (by omega) a5.out.cur bl c4.out (by omega) ) ?_
         rintro e y2 ⟨⟨q,rfl⟩,Q,p⟩;dsimp only;replace l:=hI (l.out.cur a5.out.cur p);have b5:=hI (a5.out.on R Q p);replace s:Hid (y2.heap[g]?=some (.cells a8 43 (0,0))):=p.blk s.out (show ¬ g=X by omega)
         refine d.out _ _ ⟨b5.out.s.2.2,trivial⟩ (fun o=>?_)
         clear d K a5 Q p;simp only[sZ,sS]
         (refine tkL 5 (v:=?_) rfl (by kernel_rfl) (fun _ _ _ h=>h) rfl (by assumption) ?_ ?_;rotate_left;(focus(intro w' h;(try dsimp only at h);go_simp;try with_reducible rfl));simp only[Act.put,sB,sZ,sS])
         (refine tkL 6 (v:=?_) rfl (by kernel_rfl) (fun _ _ _ h=>h) rfl (by assumption) ?_ ?_;rotate_left;(focus(intro w' h;(try dsimp only at h);go_simp;try with_reducible rfl));simp only[Act.put,sB,sZ,sS])
         have z2:=d8.out _ s.out;have i6:=ze s.out 11;refine zj (rs:=[7]) (by kernel_rfl) (by simp) ?_
         refine zd.lastL rfl (fun K d=>?_)
         go_simp;refine d.out _ _ ?_;clear d K;refine qd (by kernel_rfl) ?_ _
         go_wp2;go_meet;have c6:Hid _:=l.out.setUn q hb0';exact⟨{ x with bk:=Zl x.bk 0 { x.bk 0 with unt:=q } },G,P,some ⟨g,0,none⟩,H,I,J,L,C,A,B,D,atV E 0 (E 0),a0,by show x.bkn<=31;omega,(O.up (by decide)).book (B:=1001) 0 (y:={ x.bk 0 with unt:=q }) ⟨Nat.le_trans (O.2.2.2 0 hb0').1 (by decide),Nat.le_trans (O.2.2.2 0 hb0').2 (by decide)⟩ (by omega) (fun i h1 h2=>h1),zbk.f (x:={ x with bk:=Zl x.bk 0 { x.bk 0 with unt:=q } }) (b5.out.far R HL.out ((zA.refl y2 (fun b=>b=g)).set (a:=⟨g,11,none⟩) rfl _) (fun b e=>by have e:b=g:=e;subst e;exact⟨f6,_,_,s.out,by decide⟩)) c6.out (by omega)⟩
        ·have f8:¬ (0:Int)<(x.bkn:Int):=by omega
         have k2:=za W.out.box 2 _ rfl;go_wp2;go_meet;exact⟨x,G,P,U,H,I,J,L,C,A,B,D,E,a0,by omega,O.up (by decide),W.out.more (by omega)⟩
       ·have d2:((r:Int) == 2)=false:=by simpa using(show ¬ (r:Int)=2 by omega)
        by_cases e3:r=3
        ·subst e3
         by_cases hb0':0<x.bkn
         ·have f8:(0:Int)<(x.bkn:Int):=by omega
          have k2:=za W.out.box 2 _ rfl;obtain⟨g,f5,f4,c7⟩:=own_addr W.out.own.bk.row (by omega)
          subst f5;obtain⟨a8,a7⟩:=zG W.out.own.bk.row g rfl;have d7:Hid (u3.cell? ⟨g,10,none⟩=some (int i64 (x.bk 0).state)):=by
           have h:=zx W.out.own.bk.row 10 (by omega) rfl
           rw[zz 13 _ 0 10 (by decide)] at h
           exact h
          have f6:w.heap.size<=g:=f4;go_upto_region 22 with fail;have Y:Hid (zbk w u3.drew X Z n c (90000000013000) ob (.slice G x.san H) (.slice P x.ldn I) (.slice (some ⟨g,0,none⟩) x.bkn J)):=W.out.x.below bZ.drew;have l:Hid (zy u3.drew w.heap.size (.slice G x.san H) (.slice P x.ldn I) (.slice (some ⟨g,0,none⟩) x.bkn J) x.san x.ldn x.bkn x L C A B D E):=W.out.own.below bZ.drew;have s:=hI (zE a7);have d8:Hid (∀ z:World,z.heap[g]?=some (.cells a8 43 (0,0))->z.cell? ⟨g,10,none⟩=some (int i64 (x.bk 0).state)):=fun z hz=>(zcV (hz.trans a7.symm)).trans d7.out
          refine qt 6 7 (fun w'=>w'.cell? ⟨ob,2,none⟩=some (.slice (some ⟨g,0,none⟩) x.bkn J)/\True) rfl (by kernel_rfl) ⟨Y.out.s.2.2,trivial⟩ (fun o=>?_)
          clear W a7 k2 d7;simp only[List.replicate_succ,List.replicate_zero];generalize u3.drew=y0 at Y l s o ⊢
          (refine tkL 0 (v:=?_) rfl (by kernel_rfl) (fun _ _ _ h=>h) rfl (by assumption) ?_ ?_;rotate_left;(focus(intro w' h;(try dsimp only at h);go_simp;try with_reducible rfl));simp only[Act.put,sB,sZ,sS])
          (refine tkL 1 (v:=?_) rfl (by kernel_rfl) (fun _ _ _ h=>h) rfl (by assumption) ?_ ?_;rotate_left;(focus(intro w' h;(try dsimp only at h);go_simp;try with_reducible rfl));simp only[Act.put,sB,sZ,sS])
          (refine tkL 2 (v:=?_) rfl (by kernel_rfl) (fun _ _ _ h=>h) rfl (by assumption) ?_ ?_;rotate_left;(focus(intro w' h;(try dsimp only at h);go_simp;try with_reducible rfl));simp only[Act.put,sB,sZ,sS])
          refine zj (rs:=[3]) (by kernel_rfl) (by simp) ?_
          refine zd.consL rfl (fun K d=>?_) zd.nil
          go_simp;go_at_call 63;refine Calls.mono (pick_any X Z n c (90000000013000) 6 y0 (by omega) (by omega) (by omega) Y.out.cur ) ?_
          rintro e y2 ⟨⟨q,rfl,hq⟩,Q,p⟩;dsimp only;replace l:=hI (l.out.cur Y.out.cur p);have b5:=hI (Y.out.on R Q p);replace s:Hid (y2.heap[g]?=some (.cells a8 43 (0,0))):=p.blk s.out (show ¬ g=X by omega)
          refine d.out _ _ ⟨b5.out.s.2.2,trivial⟩ (fun o=>?_)
          clear d K Y Q p;simp only[sZ,sS]
          (refine tkL 4 (v:=?_) rfl (by kernel_rfl) (fun _ _ _ h=>h) rfl (by assumption) ?_ ?_;rotate_left;(focus(intro w' h;(try dsimp only at h);go_simp;try with_reducible rfl));simp only[Act.put,sB,sZ,sS])
          (refine tkL 5 (v:=?_) rfl (by kernel_rfl) (fun _ _ _ h=>h) rfl (by assumption) ?_ ?_;rotate_left;(focus(intro w' h;(try dsimp only at h);go_simp;try with_reducible rfl));simp only[Act.put,sB,sZ,sS])
          have z2:=d8.out _ s.out;have i6:=ze s.out 10;refine zj (rs:=[6]) (by kernel_rfl) (by simp) ?_
          refine zd.lastL rfl (fun K d=>?_)
          go_simp;refine d.out _ _ ?_;clear d K;refine qd (by kernel_rfl) ?_ _
          go_wp2;go_meet;have c6:Hid _:=l.out.setSta (q:Int) hb0';exact⟨{ x with bk:=Zl x.bk 0 { x.bk 0 with state:=(q:Int) } },G,P,some ⟨g,0,none⟩,H,I,J,L,C,A,B,D,atV E 0 (E 0),a0,by show x.bkn<=31;omega,(O.up (by decide)).book (B:=1001) 0 (y:={ x.bk 0 with state:=(q:Int) }) ⟨Nat.le_trans (O.2.2.2 0 hb0').1 (by decide),Nat.le_trans (O.2.2.2 0 hb0').2 (by decide)⟩ (by omega) (fun i h1 h2=>h1),zbk.f (x:={ x with bk:=Zl x.bk 0 { x.bk 0 with state:=(q:Int) } }) (b5.out.far R HL.out ((zA.refl y2 (fun b=>b=g)).set (a:=⟨g,10,none⟩) rfl _) (fun b e=>by have e:b=g:=e;subst e;exact⟨f6,_,_,s.out,by decide⟩)) c6.out (by omega)⟩
         ·have f8:¬ (0:Int)<(x.bkn:Int):=by omega
          have k2:=za W.out.box 2 _ rfl;go_wp2;go_meet;exact⟨x,G,P,U,H,I,J,L,C,A,B,D,E,a0,by omega,O.up (by decide),W.out.more (by omega)⟩
        ·have d3:((r:Int) == 3)=false:=by simpa using(show ¬ (r:Int)=3 by omega)
         go_wp2;go_meet;exact⟨x,G,P,U,H,I,J,L,C,A,B,D,E,a0,by omega,O.up (by decide),W.out.more (by omega)⟩
    case rest =>
     clear W a0 c8 O x G P U H I J L C A B D E;obtain⟨x,G,P,U,H,I,J,L,C,A,B,D,E,a0,c8,O,HE⟩:=hcut;obtain⟨k0,k1,k2⟩:=ce3 HE.out.box;obtain⟨r0,r1,r2⟩:=ce3 HE.out.res;obtain⟨f0,f1,f2⟩:=fe3 HE.out.res;go_wp2;have HX:=HE.out.fin R HL.out (.slice G x.san H) (.slice P x.ldn I) (.slice U x.bkn J);obtain⟨z0,z1,z2⟩:=ce3 HX.2.2.1;clear k0 k1 k2 r0 r1 r2 f0 f1 f2;exact bodyPost_ret (v:=.agg #[.slice G x.san H,.slice P x.ldn I,.slice U x.bkn J]) (by simp[results,Tryz.results26,go_sem,z0,z1,z2]) rfl ⟨⟨x,G,P,U,H,I,J,L,C,A,B,D,E,rfl,a0,c8,O,HX.2.2.2⟩,HX.1.more (by omega),HX.2.1⟩
end Go.Proofs.YtgmdnkngnhkgbaaGreat

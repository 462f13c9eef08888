/-
  OWN TEXT: DrawOff, DrawTx, ShelfT, SpecNum, FormsI.
-/
import Derived.Deep.DeepCutAuto
import Derived.Deep.CutBlock
import Derived.Test.YtfallpinmhbemaaGreatDoorRows
import Derived.Shelf.Lay
import Derived.Shelf.Strconv.Itoa3
import Derived.Shelf.Strings.OnBuilder
import Derived.Lib.AppendIntMem
import Derived.Deep.RegionHeld3
import Derived.Test.YtfallpinmhbemaaGreatDoorB29
import Derived.Test.YtfallpinmhbemaaGreatDoorB31
namespace Go.Proofs.YtfallpinmhbemaaGreatDoor
open Go.RowKit
open Go.Value (int)
open Go.IntKind (i64)
set_option maxHeartbeats 64000000
set_option maxRecDepth 100000
def DrewOff (w:World)(f:Nat)(i:Option Addr)(n c:Nat)(e:Ending)(w':World):Prop :=
 (∃ (N:Nat) (S:Nat->Sail) (a g h:Option Addr) (m2 m3 d j k:Nat) (L C:Nat->Value),e=.returned (.agg #[.slice a N d,.slice g m2 j,.slice h m3 k])/\N<=7/\m3<=31/\OwnSails w' w.heap.size (.slice a N d) N S L C)/\CurIs w' f i n c 90000000100000/\zA w w' (fun b=>b=f)
theorem zdr {z u:World}{g k:Nat}(h:z.heap[g]?=u.heap[g]?):z.cell? ⟨g,k,none⟩=u.cell? ⟨g,k,none⟩:=by simp[World.cell?,h]
theorem own_ok {w:World}{base e size n c:Nat}{a:Option Addr}{j:List Value}(h:w.ownsRow base e size (.slice a n c) n j):SliceOk a n c:=by
 obtain⟨b,d,e,f,g,i⟩:=zt h
 cases e
 exact⟨f,g,i⟩
theorem zhI {N M:Nat}{S:Nat->Sail}(h:ShortAll N S 100)(hM:M<=N):ShortAll M S 1048576:=fun i hi=>by
 have g:=h i (by omega)
 exact⟨Nat.le_trans g.1 (by decide),Nat.le_trans g.2.1 (by decide),Nat.le_trans g.2.2.1 (by decide),Nat.le_trans g.2.2.2 (by decide)⟩
theorem zim (X:Nat)(ao:Option Addr)(n c a:Nat)(w:World)(ha:a<=1000000000)(hn:n<=1048576)(H:X<w.heap.size)(j0:Hid (CodeLow w ao n))(h:CurX w X ao n c a) :
  Calls Tryz.prog 30 #[.pointer (some ⟨X,0,none⟩)] w fun e w'=>DrewOff w X ao n c e w':=by
 have HL:=hI h.is.code_lt;have e6:Below w.heap.size w (w.alloc (.cells #[.slice none 0 0,.slice none 0 0,.slice none 0 0] 66)):=zr bZ _;have bR:=heap_alloc_new w (.cells #[.slice none 0 0,.slice none 0 0,.slice none 0 0] 66);have i8:(w.alloc (.cells #[.slice none 0 0,.slice none 0 0,.slice none 0 0] 66)).heap.size=w.heap.size+1:=by simp
 go_enter Tryz.func30,Tryz.ntmps30;go_wp2_with fail;generalize w.alloc (.cells #[.slice none 0 0,.slice none 0 0,.slice none 0 0] 66)=V at e6 bR i8 ⊢;have h2:Hid (CodeLow V ao n):=fun k hk b off e=>by have:=j0.out k hk b off e;omega
 refine(zff X ao n c a V ha hn (by omega) h2 (h.below e6)).mono ?_
 rintro e w1 ⟨v,N,S,L0,C0,rfl,⟨_,l7⟩,HT⟩;obtain⟨lo,lc,rfl,_,_,_⟩:=zt HT.out.lie.row;clear h h2;have e7:=HT.out.kept;have h9:=e7.blk bR (by omega)
 go_wp2_with fail;refine(zfT lo N lc S w1 (by omega) (zhI HT.out.short (Nat.le_refl _)) HT.out.lie.at).mono ?_
 rintro e w2 ⟨⟨J,O,R,P,Q,I,M,L,C,A,B,D,E,t,hM,rfl,hO⟩,d5⟩;have k4:=e7.size;have m6:=d5.size;have bN:=heap_alloc_new w2 (.cells #[.slice J M O,.slice R M P,.slice Q 0 I] 66);have d9:Below w2.heap.size w2 (w2.alloc (.cells #[.slice J M O,.slice R M P,.slice Q 0 I] 66)):=zr bZ _;have HF:Hid (zbu w (w2.alloc (.cells #[.slice J M O,.slice R M P,.slice Q 0 I] 66)) X ao n c 90000000000000 w2.heap.size (zef M S) J R Q O P I L C A B D E) :=
  ⟨(HT.out.cur.is.below d5).below d9,(((zA.of_below e6).trans e7).trans (zA.of_below d5)).trans (zA.of_below d9),by omega,zc (zc h9 d5) d9,bN,(hO.below d9).lower (by omega)⟩
 have h6:Hid (Off.Short (zef M S) 1048576):=zcD (by omega) (zhI HT.out.short hM)
 go_wp2_with fail;generalize w2.alloc (.cells #[.slice J M O,.slice R M P,.slice Q 0 I] 66)=u0 at HF ⊢;have g1:Hid (∃ (x:Off) (J R Q:Option Addr) (O P I:Nat) (L C A B D E:Nat->Value),x.san<=7/\x.bkn<=30/\Off.Short x 1048576/\Hid (zbu w u0 X ao n c (90000000000000) w2.heap.size x J R Q O P I L C A B D E)):=⟨zef M S,J,R,Q,O,P,I,L,C,A,B,D,E,by show M<=7;omega,Nat.zero_le _,h6.out,HF⟩
 clear HF h6 hO e6 d5 bR h9 e7 HT i8 k4 bN d9;generalize w2.heap.size=ob at g1 ⊢;obtain⟨x,J,R,Q,O,P,I,L,C,A,B,D,E,a5,f4,a7,HP⟩:=g1.out;clear g1;refine(pick_any X ao n c (90000000000000) 8 _ (by omega) (by omega) (by omega) HP.out.cur).mono ?_
 rintro e u1 ⟨⟨r8,rfl,m5⟩,G,p⟩;have g3:=hI (HP.out.on H G p);clear HP G p;go_wp2_with fail;refine(one_any X ao n c (90000000000000+2) 16 _ (by omega) (by omega) (by omega) g3.out.cur).mono ?_
 rintro e u2 ⟨⟨tb,rfl⟩,G,p⟩;have g4:=hI (g3.out.on H G p);clear g3 G p;go_upto_if 19 with fail;go_cut [5] (fun n5 wx=>∃ m:Nat,n5=int i64 (m:Int)/\m<=40/\Hid (zbu w wx X ao n c (90000000000000+4) ob x J R Q O P I L C A B D E))
 case first =>
  cases tb with
  | false =>
   go_wp2;go_meet;exact⟨r8,rfl,by omega,g4.out.more (by omega)⟩
  | true =>
   go_wp2;go_meet;exact⟨40,rfl,by omega,g4.out.more (by omega)⟩
 case rest =>
  obtain⟨m,rfl,l5,h5⟩:=hcut;clear g4;go_wp2;go_loopw [6,7,8,9] (fun kk _ _ _ wr=>∃ i:Nat,kk=int i64 (i:Int)/\1<=i/\i<=m+1/\∃ (x:Off) (J R Q:Option Addr) (O P I:Nat) (L C A B D E:Nat->Value),x.san<=7/\x.bkn<=30/\Off.Short x 1048576/\Hid (zbu w wr X ao n c (90000000000000+4+302*i) ob x J R Q O P I L C A B D E)) (fun kk _ _ _ _=>41 - (intOf kk).toNat)
  case atStart=>exact⟨1,rfl,by omega,by omega,x,J,R,Q,O,P,I,L,C,A,B,D,E,a5,f4,a7,h5.out.more (by omega)⟩
  case round =>
   clear h5 a5 f4 a7 J R Q O P I L C A B D E x;obtain⟨i,rfl,l8,l9,x,J,R,Q,O,P,I,L,C,A,B,D,E,a5,f4,a7,HP⟩:=hrel
   by_cases hi:i<=m
   ·have d1:decide ((i:Int)<=(m:Int))=true:=decide_eq_true (by omega)
    have i0:(i:Int)<=(m:Int):=by omega
    go_upto_region 8 with fail;go_cut [7,9] (fun s7 s9 wx=>∃ Y tb b1 b2 b3 m1 m2 m3 d1 d2 d3,s7=.pointer (some ⟨Y,0,none⟩)/\s9=.bool tb/\ob<Y/\Hid (wx.heap[Y]?=some (.cells #[.slice b1 m1 d1,.slice b2 m2 d2,.slice b3 m3 d3] 66 (0,0)))/\Hid (qv w.heap.size x.san b1 b2 b3 m1 m2 m3 d1 d2 d3 tb wx)/\Hid (zbu w wx X ao n c (90000000000000+4+302*i+300) ob x J R Q O P I L C A B D E))
    case first =>
     have g0:=hI (HP.out.below bZ.drew);refine qy 15 15 (fun w'=>w'.cell? ⟨ob,0,none⟩=some (.slice J x.san O)/\w'.cell? ⟨ob,1,none⟩=some (.slice R x.ldn P)/\w'.cell? ⟨ob,2,none⟩=some (.slice Q x.bkn I)) rfl (by kernel_rfl) g0.out.s (fun l=>?_)
     clear HP;simp only[List.replicate_succ,List.replicate_zero];have f:Hid (R8 w wr.drew X ao n c (90000000000000+4+302*i) ob x J R Q O P I L C A B D E none none none none):=⟨g0.out,fun _ e=>(by cases e),fun _ e=>(by cases e),fun _ _ _ e=>(by cases e),fun _ e=>(by cases e)⟩
     clear g0;generalize wr.drew=u0 at f l ⊢
     (refine tkN 0 (v:=?_) rfl (by kernel_rfl) (fun _ _ _ h=>h) rfl (by assumption) ?_ ?_;rotate_left;focus(intro w' h;(try dsimp only at h);go_simp;try with_reducible rfl);simp only[Act.put,sB,sZ,sS])
     (refine tkN 1 (v:=?_) rfl (by kernel_rfl) (fun _ _ _ h=>h) rfl (by assumption) ?_ ?_;rotate_left;focus(intro w' h;(try dsimp only at h);go_simp;try with_reducible rfl);simp only[Act.put,sB,sZ,sS])
     (refine tkN 2 (v:=?_) rfl (by kernel_rfl) (fun _ _ _ h=>h) rfl (by assumption) ?_ ?_;rotate_left;focus(intro w' h;(try dsimp only at h);go_simp;try with_reducible rfl);simp only[Act.put,sB,sZ,sS])
     (refine tkN 3 (v:=?_) rfl (by kernel_rfl) (fun _ _ _ h=>h) rfl (by assumption) ?_ ?_;rotate_left;focus(intro w' h;(try dsimp only at h);go_simp;try with_reducible rfl);simp only[Act.put,sB,sZ,sS])
     refine zh (rs:=[4,10,11]) (by kernel_rfl) (by simp) ?_
     refine zd.consL rfl (fun K d=>?_) (zd.consL rfl (fun K d=>?_) (zd.consL rfl (fun K d=>?_) zd.nil))
     focus
      go_simp;go_at_call 29;refine Calls.mono (f.out.op H (by omega) (by omega) (by omega)) ?_
      rintro e u1 ⟨y,ag,cg,rfl,a9,b0,f⟩;dsimp only;refine d.out _ _ f.out.f.s (fun l=>?_)
      clear d K;simp only[sZ,sS];refine zh (rs:=[5,10,11]) (by kernel_rfl) (by simp) ?_
      refine zd.consL rfl (fun K d=>?_) (zd.consL rfl (fun K d=>?_) (zd.consL rfl (fun K d=>?_) zd.nil))
      focus
       go_simp;go_at_call 80;refine Calls.mono (f.out.dop a7 a9 b0 _) ?_;rintro e u2 ⟨q,rfl,f⟩;dsimp only;refine d.out _ _ f.out.f.s (fun l=>?_)
       clear d K;simp only[sZ,sS]
       (refine tkN 6 (v:=?_) rfl (by kernel_rfl) (fun _ _ _ h=>h) rfl (by assumption) ?_ ?_;rotate_left;focus(intro w' h;(try dsimp only at h);go_simp;try with_reducible rfl);simp only[Act.put,sB,sZ,sS])
       (refine tkN 7 (v:=?_) rfl (by kernel_rfl) (fun _ _ _ h=>h) rfl (by assumption) ?_ ?_;rotate_left;focus(intro w' h;(try dsimp only at h);go_simp;try with_reducible rfl);simp only[Act.put,sB,sZ,sS])
       (refine tkN 8 (v:=?_) rfl (by kernel_rfl) (fun _ _ _ h=>h) rfl (by assumption) ?_ ?_;rotate_left;focus(intro w' h;(try dsimp only at h);go_simp;try with_reducible rfl);simp only[Act.put,sB,sZ,sS])
       (refine tkN 9 (v:=?_) rfl (by kernel_rfl) (fun _ _ _ h=>h) rfl (by assumption) ?_ ?_;rotate_left;focus(intro w' h;(try dsimp only at h);go_simp;try with_reducible rfl);simp only[Act.put,sB,sZ,sS])
       refine zh (rs:=[10,11]) (by kernel_rfl) (by simp) ?_
       refine zd.consL rfl (fun K d=>?_) (zd.consL rfl (fun K d=>?_) zd.nil)
       focus
        go_simp;replace f:Hid _:=f.out.al7;refine d.out _ _ f.out.f.s (fun l=>?_)
        clear d K;simp only[sZ,sS];generalize u2.alloc (.cells #[.slice none 0 0,.slice none 0 0,.slice none 0 0] 66)=u3 at f l ⊢;generalize u2.heap.size=Y at f ⊢;refine zh (rs:=[11]) (by kernel_rfl) (by simp) ?_
        refine zd.consL rfl (fun K d=>?_) zd.nil
        focus
         go_simp;replace f:Hid _:=f.out.al8;refine d.out _ _ f.out.f.s (fun l=>?_)
         clear d K;simp only[sZ,sS];generalize u3.alloc (.cells #[int i64 0,int i64 0,int i64 0,.slice none 0 0] 127)=u4 at f l ⊢;generalize u3.heap.size=Z at f ⊢
       rotate_left 1
       focus
        go_simp;replace f:Hid _:=f.out.al8;refine d.out _ _ f.out.f.s (fun l=>?_)
        clear d K;simp only[sZ,sS];generalize u2.alloc (.cells #[int i64 0,int i64 0,int i64 0,.slice none 0 0] 127)=u3 at f l ⊢;generalize u2.heap.size=Z at f ⊢;refine zh (rs:=[10]) (by kernel_rfl) (by simp) ?_
        refine zd.consL rfl (fun K d=>?_) zd.nil
        focus
         go_simp;replace f:Hid _:=f.out.al7;refine d.out _ _ f.out.f.s (fun l=>?_)
         clear d K;simp only[sZ,sS];generalize u3.alloc (.cells #[.slice none 0 0,.slice none 0 0,.slice none 0 0] 66)=u4 at f l ⊢;generalize u3.heap.size=Y at f ⊢
      rotate_left 2
      focus
       go_simp;replace f:Hid _:=f.out.al7;refine d.out _ _ f.out.f.s (fun l=>?_)
       clear d K;simp only[sZ,sS];generalize u1.alloc (.cells #[.slice none 0 0,.slice none 0 0,.slice none 0 0] 66)=u2 at f l ⊢;generalize u1.heap.size=Y at f ⊢;refine zh (rs:=[5,11]) (by kernel_rfl) (by simp) ?_
       refine zd.consL rfl (fun K d=>?_) (zd.consL rfl (fun K d=>?_) zd.nil)
       focus
        go_simp;go_at_call 80;refine Calls.mono (f.out.dop a7 a9 b0 _) ?_;rintro e u3 ⟨q,rfl,f⟩;dsimp only;refine d.out _ _ f.out.f.s (fun l=>?_)
        clear d K;simp only[sZ,sS]
        (refine tkN 6 (v:=?_) rfl (by kernel_rfl) (fun _ _ _ h=>h) rfl (by assumption) ?_ ?_;rotate_left;focus(intro w' h;(try dsimp only at h);go_simp;try with_reducible rfl);simp only[Act.put,sB,sZ,sS])
        (refine tkN 7 (v:=?_) rfl (by kernel_rfl) (fun _ _ _ h=>h) rfl (by assumption) ?_ ?_;rotate_left;focus(intro w' h;(try dsimp only at h);go_simp;try with_reducible rfl);simp only[Act.put,sB,sZ,sS])
        (refine tkN 8 (v:=?_) rfl (by kernel_rfl) (fun _ _ _ h=>h) rfl (by assumption) ?_ ?_;rotate_left;focus(intro w' h;(try dsimp only at h);go_simp;try with_reducible rfl);simp only[Act.put,sB,sZ,sS])
        (refine tkN 9 (v:=?_) rfl (by kernel_rfl) (fun _ _ _ h=>h) rfl (by assumption) ?_ ?_;rotate_left;focus(intro w' h;(try dsimp only at h);go_simp;try with_reducible rfl);simp only[Act.put,sB,sZ,sS])
        refine zh (rs:=[11]) (by kernel_rfl) (by simp) ?_
        refine zd.consL rfl (fun K d=>?_) zd.nil
        focus
         go_simp;replace f:Hid _:=f.out.al8;refine d.out _ _ f.out.f.s (fun l=>?_)
         clear d K;simp only[sZ,sS];generalize u3.alloc (.cells #[int i64 0,int i64 0,int i64 0,.slice none 0 0] 127)=u4 at f l ⊢;generalize u3.heap.size=Z at f ⊢
       rotate_left 1
       focus
        go_simp;replace f:Hid _:=f.out.al8;refine d.out _ _ f.out.f.s (fun l=>?_)
        clear d K;simp only[sZ,sS];generalize u2.alloc (.cells #[int i64 0,int i64 0,int i64 0,.slice none 0 0] 127)=u3 at f l ⊢;generalize u2.heap.size=Z at f ⊢
      rotate_left 2
      focus
       go_simp;replace f:Hid _:=f.out.al8;refine d.out _ _ f.out.f.s (fun l=>?_)
       clear d K;simp only[sZ,sS];generalize u1.alloc (.cells #[int i64 0,int i64 0,int i64 0,.slice none 0 0] 127)=u2 at f l ⊢;generalize u1.heap.size=Z at f ⊢;refine zh (rs:=[5,10]) (by kernel_rfl) (by simp) ?_
       refine zd.consL rfl (fun K d=>?_) (zd.consL rfl (fun K d=>?_) zd.nil)
       focus
        go_simp;go_at_call 80;refine Calls.mono (f.out.dop a7 a9 b0 _) ?_;rintro e u3 ⟨q,rfl,f⟩;dsimp only;refine d.out _ _ f.out.f.s (fun l=>?_)
        clear d K;simp only[sZ,sS]
        (refine tkN 6 (v:=?_) rfl (by kernel_rfl) (fun _ _ _ h=>h) rfl (by assumption) ?_ ?_;rotate_left;focus(intro w' h;(try dsimp only at h);go_simp;try with_reducible rfl);simp only[Act.put,sB,sZ,sS])
        (refine tkN 7 (v:=?_) rfl (by kernel_rfl) (fun _ _ _ h=>h) rfl (by assumption) ?_ ?_;rotate_left;focus(intro w' h;(try dsimp only at h);go_simp;try with_reducible rfl);simp only[Act.put,sB,sZ,sS])
        (refine tkN 8 (v:=?_) rfl (by kernel_rfl) (fun _ _ _ h=>h) rfl (by assumption) ?_ ?_;rotate_left;focus(intro w' h;(try dsimp only at h);go_simp;try with_reducible rfl);simp only[Act.put,sB,sZ,sS])
        (refine tkN 9 (v:=?_) rfl (by kernel_rfl) (fun _ _ _ h=>h) rfl (by assumption) ?_ ?_;rotate_left;focus(intro w' h;(try dsimp only at h);go_simp;try with_reducible rfl);simp only[Act.put,sB,sZ,sS])
        refine zh (rs:=[10]) (by kernel_rfl) (by simp) ?_
        refine zd.consL rfl (fun K d=>?_) zd.nil
        focus
         go_simp;replace f:Hid _:=f.out.al7;refine d.out _ _ f.out.f.s (fun l=>?_)
         clear d K;simp only[sZ,sS];generalize u3.alloc (.cells #[.slice none 0 0,.slice none 0 0,.slice none 0 0] 66)=u4 at f l ⊢;generalize u3.heap.size=Y at f ⊢
       rotate_left 1
       focus
        go_simp;replace f:Hid _:=f.out.al7;refine d.out _ _ f.out.f.s (fun l=>?_)
        clear d K;simp only[sZ,sS];generalize u2.alloc (.cells #[.slice none 0 0,.slice none 0 0,.slice none 0 0] 66)=u3 at f l ⊢;generalize u2.heap.size=Y at f ⊢
     rotate_left 6
     focus
      go_simp;replace f:Hid _:=f.out.al7;refine d.out _ _ f.out.f.s (fun l=>?_)
      clear d K;simp only[sZ,sS];generalize u0.alloc (.cells #[.slice none 0 0,.slice none 0 0,.slice none 0 0] 66)=u1 at f l ⊢;generalize u0.heap.size=Y at f ⊢;refine zh (rs:=[4,11]) (by kernel_rfl) (by simp) ?_
      refine zd.consL rfl (fun K d=>?_) (zd.consL rfl (fun K d=>?_) zd.nil)
      focus
       go_simp;go_at_call 29;refine Calls.mono (f.out.op H (by omega) (by omega) (by omega)) ?_
       rintro e u2 ⟨y,ag,cg,rfl,a9,b0,f⟩;dsimp only;refine d.out _ _ f.out.f.s (fun l=>?_)
       clear d K;simp only[sZ,sS];refine zh (rs:=[5,11]) (by kernel_rfl) (by simp) ?_
       refine zd.consL rfl (fun K d=>?_) (zd.consL rfl (fun K d=>?_) zd.nil)
       focus
        go_simp;go_at_call 80;refine Calls.mono (f.out.dop a7 a9 b0 _) ?_;rintro e u3 ⟨q,rfl,f⟩;dsimp only;refine d.out _ _ f.out.f.s (fun l=>?_)
        clear d K;simp only[sZ,sS]
        (refine tkN 6 (v:=?_) rfl (by kernel_rfl) (fun _ _ _ h=>h) rfl (by assumption) ?_ ?_;rotate_left;focus(intro w' h;(try dsimp only at h);go_simp;try with_reducible rfl);simp only[Act.put,sB,sZ,sS])
        (refine tkN 7 (v:=?_) rfl (by kernel_rfl) (fun _ _ _ h=>h) rfl (by assumption) ?_ ?_;rotate_left;focus(intro w' h;(try dsimp only at h);go_simp;try with_reducible rfl);simp only[Act.put,sB,sZ,sS])
        (refine tkN 8 (v:=?_) rfl (by kernel_rfl) (fun _ _ _ h=>h) rfl (by assumption) ?_ ?_;rotate_left;focus(intro w' h;(try dsimp only at h);go_simp;try with_reducible rfl);simp only[Act.put,sB,sZ,sS])
        (refine tkN 9 (v:=?_) rfl (by kernel_rfl) (fun _ _ _ h=>h) rfl (by assumption) ?_ ?_;rotate_left;focus(intro w' h;(try dsimp only at h);go_simp;try with_reducible rfl);simp only[Act.put,sB,sZ,sS])
        refine zh (rs:=[11]) (by kernel_rfl) (by simp) ?_
        refine zd.consL rfl (fun K d=>?_) zd.nil
        focus
         go_simp;replace f:Hid _:=f.out.al8;refine d.out _ _ f.out.f.s (fun l=>?_)
         clear d K;simp only[sZ,sS];generalize u3.alloc (.cells #[int i64 0,int i64 0,int i64 0,.slice none 0 0] 127)=u4 at f l ⊢;generalize u3.heap.size=Z at f ⊢
       rotate_left 1
       focus
        go_simp;replace f:Hid _:=f.out.al8;refine d.out _ _ f.out.f.s (fun l=>?_)
        clear d K;simp only[sZ,sS];generalize u2.alloc (.cells #[int i64 0,int i64 0,int i64 0,.slice none 0 0] 127)=u3 at f l ⊢;generalize u2.heap.size=Z at f ⊢
      rotate_left 2
      focus
       go_simp;replace f:Hid _:=f.out.al8;refine d.out _ _ f.out.f.s (fun l=>?_)
       clear d K;simp only[sZ,sS];generalize u1.alloc (.cells #[int i64 0,int i64 0,int i64 0,.slice none 0 0] 127)=u2 at f l ⊢;generalize u1.heap.size=Z at f ⊢;refine zh (rs:=[4]) (by kernel_rfl) (by simp) ?_
       refine zd.consL rfl (fun K d=>?_) zd.nil
       focus
        go_simp;go_at_call 29;refine Calls.mono (f.out.op H (by omega) (by omega) (by omega)) ?_
        rintro e u3 ⟨y,ag,cg,rfl,a9,b0,f⟩;dsimp only;refine d.out _ _ f.out.f.s (fun l=>?_)
        clear d K;simp only[sZ,sS]
     rotate_left 3
     focus
      go_simp;replace f:Hid _:=f.out.al8;refine d.out _ _ f.out.f.s (fun l=>?_)
      clear d K;simp only[sZ,sS];generalize u0.alloc (.cells #[int i64 0,int i64 0,int i64 0,.slice none 0 0] 127)=u1 at f l ⊢;generalize u0.heap.size=Z at f ⊢;refine zh (rs:=[4,10]) (by kernel_rfl) (by simp) ?_
      refine zd.consL rfl (fun K d=>?_) (zd.consL rfl (fun K d=>?_) zd.nil)
      focus
       go_simp;go_at_call 29;refine Calls.mono (f.out.op H (by omega) (by omega) (by omega)) ?_
       rintro e u2 ⟨y,ag,cg,rfl,a9,b0,f⟩;dsimp only;refine d.out _ _ f.out.f.s (fun l=>?_)
       clear d K;simp only[sZ,sS];refine zh (rs:=[5,10]) (by kernel_rfl) (by simp) ?_
       refine zd.consL rfl (fun K d=>?_) (zd.consL rfl (fun K d=>?_) zd.nil)
       focus
        go_simp;go_at_call 80;refine Calls.mono (f.out.dop a7 a9 b0 _) ?_;rintro e u3 ⟨q,rfl,f⟩;dsimp only;refine d.out _ _ f.out.f.s (fun l=>?_)
        clear d K;simp only[sZ,sS]
        (refine tkN 6 (v:=?_) rfl (by kernel_rfl) (fun _ _ _ h=>h) rfl (by assumption) ?_ ?_;rotate_left;focus(intro w' h;(try dsimp only at h);go_simp;try with_reducible rfl);simp only[Act.put,sB,sZ,sS])
        (refine tkN 7 (v:=?_) rfl (by kernel_rfl) (fun _ _ _ h=>h) rfl (by assumption) ?_ ?_;rotate_left;focus(intro w' h;(try dsimp only at h);go_simp;try with_reducible rfl);simp only[Act.put,sB,sZ,sS])
        (refine tkN 8 (v:=?_) rfl (by kernel_rfl) (fun _ _ _ h=>h) rfl (by assumption) ?_ ?_;rotate_left;focus(intro w' h;(try dsimp only at h);go_simp;try with_reducible rfl);simp only[Act.put,sB,sZ,sS])
        (refine tkN 9 (v:=?_) rfl (by kernel_rfl) (fun _ _ _ h=>h) rfl (by assumption) ?_ ?_;rotate_left;focus(intro w' h;(try dsimp only at h);go_simp;try with_reducible rfl);simp only[Act.put,sB,sZ,sS])
        refine zh (rs:=[10]) (by kernel_rfl) (by simp) ?_
        refine zd.consL rfl (fun K d=>?_) zd.nil
        focus
         go_simp;replace f:Hid _:=f.out.al7;refine d.out _ _ f.out.f.s (fun l=>?_)
         clear d K;simp only[sZ,sS];generalize u3.alloc (.cells #[.slice none 0 0,.slice none 0 0,.slice none 0 0] 66)=u4 at f l ⊢;generalize u3.heap.size=Y at f ⊢
       rotate_left 1
       focus
        go_simp;replace f:Hid _:=f.out.al7;refine d.out _ _ f.out.f.s (fun l=>?_)
        clear d K;simp only[sZ,sS];generalize u2.alloc (.cells #[.slice none 0 0,.slice none 0 0,.slice none 0 0] 66)=u3 at f l ⊢;generalize u2.heap.size=Y at f ⊢
      rotate_left 2
      focus
       go_simp;replace f:Hid _:=f.out.al7;refine d.out _ _ f.out.f.s (fun l=>?_)
       clear d K;simp only[sZ,sS];generalize u1.alloc (.cells #[.slice none 0 0,.slice none 0 0,.slice none 0 0] 66)=u2 at f l ⊢;generalize u1.heap.size=Y at f ⊢;refine zh (rs:=[4]) (by kernel_rfl) (by simp) ?_
       refine zd.consL rfl (fun K d=>?_) zd.nil
       focus
        go_simp;go_at_call 29;refine Calls.mono (f.out.op H (by omega) (by omega) (by omega)) ?_
        rintro e u3 ⟨y,ag,cg,rfl,a9,b0,f⟩;dsimp only;refine d.out _ _ f.out.f.s (fun l=>?_)
        clear d K;simp only[sZ,sS]
     all_goals
      try
       refine zh (rs:=[5]) (by kernel_rfl) (by simp) ?_
       refine zd.consL rfl (fun K d=>?_) zd.nil
       go_simp;go_at_call 80;refine Calls.mono (f.out.dop a7 a9 b0 _) ?_;rintro e u4 ⟨q,rfl,f⟩;dsimp only;refine d.out _ _ f.out.f.s (fun l=>?_)
       clear d K;simp only[sZ,sS]
       (refine tkN 6 (v:=?_) rfl (by kernel_rfl) (fun _ _ _ h=>h) rfl (by assumption) ?_ ?_;rotate_left;focus(intro w' h;(try dsimp only at h);go_simp;try with_reducible rfl);simp only[Act.put,sB,sZ,sS])
       (refine tkN 7 (v:=?_) rfl (by kernel_rfl) (fun _ _ _ h=>h) rfl (by assumption) ?_ ?_;rotate_left;focus(intro w' h;(try dsimp only at h);go_simp;try with_reducible rfl);simp only[Act.put,sB,sZ,sS])
       (refine tkN 8 (v:=?_) rfl (by kernel_rfl) (fun _ _ _ h=>h) rfl (by assumption) ?_ ?_;rotate_left;focus(intro w' h;(try dsimp only at h);go_simp;try with_reducible rfl);simp only[Act.put,sB,sZ,sS])
       (refine tkN 9 (v:=?_) rfl (by kernel_rfl) (fun _ _ _ h=>h) rfl (by assumption) ?_ ?_;rotate_left;focus(intro w' h;(try dsimp only at h);go_simp;try with_reducible rfl);simp only[Act.put,sB,sZ,sS])
     all_goals
      obtain⟨i9,h7⟩:=f.out.h7 Y rfl;obtain⟨k6,h8⟩:=f.out.h8 Z rfl;have h4:Hid (q.Ok w.heap.size x.san u4):=f.out.hn q rfl;have h3:=hI f.out.f;have b6:=hI h7;have f7:=hI h8;clear h7 h8 f;have i7:Y≠Z:=fun e=>by have h7:=b6.out;rw[e,f7.out] at h7;simp at h7
      obtain⟨q0,q1,q2⟩:=ce3 b6.out;obtain⟨g7,g8,g9⟩:=fe3 b6.out;have e8:zA u4 (((u4.setCell ⟨Y,0,none⟩ (.slice q.b1 q.m1 q.d1)).setCell ⟨Y,1,none⟩ (.slice q.b2 q.m2 q.d2)).setCell ⟨Y,2,none⟩ (.slice q.b3 q.m3 q.d3)) (fun b=>b=Y):=((((zA.refl u4 (fun b=>b=Y)).set (a:=⟨Y,0,none⟩) rfl (.slice q.b1 q.m1 q.d1)).set (a:=⟨Y,1,none⟩) rfl (.slice q.b2 q.m2 q.d2)).set (a:=⟨Y,2,none⟩) rfl (.slice q.b3 q.m3 q.d3))
      have HG:Hid _:=h3.out.other H HL.out e8 b6.out (by decide) i9
      have c8:Hid (q.Ok w.heap.size x.san (((u4.setCell ⟨Y,0,none⟩ (.slice q.b1 q.m1 q.d1)).setCell ⟨Y,1,none⟩ (.slice q.b2 q.m2 q.d2)).setCell ⟨Y,2,none⟩ (.slice q.b3 q.m3 q.d3))):=qv.box h4.out e8 b6.out (by decide)
      have f9:Hid _:=zfS b6.out (.slice q.b1 q.m1 q.d1) (.slice q.b2 q.m2 q.d2) (.slice q.b3 q.m3 q.d3);have c0:Hid _:=e8.blk f7.out (show ¬ Z=Y from fun e=>i7 e.symm)
      refine zh (rs:=[12]) (by kernel_rfl) (by simp) ?_
      refine zd.consL rfl (fun K d=>?_) zd.nil
      go_simp;refine d.out _ _ HG.out.s (fun l=>?_)
      clear d K h3 e8 h4 b6 f7 q0 q1 q2 g7 g8 g9;simp only[sZ,sS];generalize (((u4.setCell ⟨Y,0,none⟩ (.slice q.b1 q.m1 q.d1)).setCell ⟨Y,1,none⟩ (.slice q.b2 q.m2 q.d2)).setCell ⟨Y,2,none⟩ (.slice q.b3 q.m3 q.d3))=v7 at HG c8 f9 c0 l ⊢;obtain⟨q0,q1,q2,q3⟩:=ce4 c0.out;obtain⟨g7,g8,g9,k7⟩:=fe4 c0.out;have e9:zA v7 ((((v7.setCell ⟨Z,0,none⟩ (int i64 q.k1)).setCell ⟨Z,1,none⟩ (int i64 q.k2)).setCell ⟨Z,2,none⟩ (int i64 q.k3)).setCell ⟨Z,3,none⟩ (.slice q.b4 q.m4 q.d4)) (fun b=>b=Z):=(((((zA.refl v7 (fun b=>b=Z)).set (a:=⟨Z,0,none⟩) rfl (int i64 q.k1)).set (a:=⟨Z,1,none⟩) rfl (int i64 q.k2)).set (a:=⟨Z,2,none⟩) rfl (int i64 q.k3)).set (a:=⟨Z,3,none⟩) rfl (.slice q.b4 q.m4 q.d4))
      have HH:Hid _:=HG.out.other H HL.out e9 c0.out (by decide) k6
      have f5:Hid (q.Ok w.heap.size x.san ((((v7.setCell ⟨Z,0,none⟩ (int i64 q.k1)).setCell ⟨Z,1,none⟩ (int i64 q.k2)).setCell ⟨Z,2,none⟩ (int i64 q.k3)).setCell ⟨Z,3,none⟩ (.slice q.b4 q.m4 q.d4))):=qv.box c8.out e9 c0.out (by decide)
      have h1:Hid _:=e9.blk f9.out i7;refine zh (rs:=[13]) (by kernel_rfl) (by simp) ?_
      refine zd.consL rfl (fun K d=>?_) zd.nil
      go_simp;refine d.out _ _ HH.out.s (fun l=>?_)
      clear d K HG e9 c8 f9 c0 q0 q1 q2 q3 g7 g8 g9 k7;simp only[sZ,sS];generalize ((((v7.setCell ⟨Z,0,none⟩ (int i64 q.k1)).setCell ⟨Z,1,none⟩ (int i64 q.k2)).setCell ⟨Z,2,none⟩ (int i64 q.k3)).setCell ⟨Z,3,none⟩ (.slice q.b4 q.m4 q.d4))=v8 at HH f5 h1 l ⊢;refine zh (rs:=[14]) (by kernel_rfl) (by simp) ?_
      refine zd.consL rfl (fun K d=>?_) zd.nil
      go_simp;refine d.out _ _ HH.out.s (fun l=>?_)
      clear d K;simp only[sZ,sS];refine zH (by kernel_rfl) ?_ _
      go_wp2;go_meet;exact⟨Y,q.tb,q.b1,q.b2,q.b3,q.m1,q.m2,q.m3,q.d1,q.d2,q.d3,rfl,rfl,i9,h1,f5,HH⟩
    case rest =>
     obtain⟨Y,tb,b1,b2,b3,m1,m2,m3,d1,d2,d3,rfl,rfl,l4,HC,HN,T⟩:=hcut;clear HP;have m7:IntKind.i64.wrap ((i:Int)+1)=((i+1:Nat):Int):=by rw[IntKind.wrap_i64];omega
     cases tb with
     | false =>
      go_wp2;go_roundw
      case rel=>exact⟨i+1,rfl,by omega,by omega,x,J,R,Q,O,P,I,L,C,A,B,D,E,a5,f4,a7,T.out.more (by omega)⟩
      case measure=>simp[intOf];omega
     | true =>
      rcases HN.out with h|⟨x2,L2,C2,A2,B2,D2,E2,rfl,rfl,rfl,e1,e2,e3,i1⟩
      ·cases h
      ·have j2:Hid _:=i1
       have j1:=hI e1;clear i1 HN e1;obtain⟨q0,q1,q2⟩:=ce3 HC.out;obtain⟨r0,r1,r2⟩:=ce3 T.out.box;obtain⟨f0,f1,f2⟩:=fe3 T.out.box;go_wp2;go_roundw
       case rel=>exact⟨i+1,rfl,by omega,by omega,x2,b1,b2,b3,d1,d2,d3,L2,C2,A2,B2,D2,E2,(by have:=j1.out;omega),e2,e3,(T.out.to H HL.out j2.out).more (by omega)⟩
       case measure=>simp[intOf];omega
   ·have d1:decide ((i:Int)<=(m:Int))=false:=decide_eq_false (by omega)
    have i0:¬ (i:Int)<=(m:Int):=by omega
    have g5:Hid (zbu w wr X ao n c (90000000012998) ob x J R Q O P I L C A B D E):=HP.out.more (by omega)
    clear HP;go_wp2_with fail;refine(pick_any X ao n c (90000000012998) 40 _ (by omega) (by omega) (by omega) g5.out.cur).mono ?_
    rintro e u3 ⟨⟨r,rfl,hr⟩,G,p⟩;have T:=hI (g5.out.on H G p);clear g5 G p d1 i0;go_upto_block 2 with fail;go_cut [] (fun wx=>∃ (N:Nat) (S:Nat->Sail) (J R Q:Option Addr) (m2 m3 O P I:Nat) (L C:Nat->Value),N<=7/\m3<=31/\Hid (zbv w wx X ao n c (90000000020000) ob N S J R Q m2 m3 O P I L C))
    case first =>
     by_cases e0:r=0
     ·subst e0
      obtain⟨r0,ri,k8,k9,l0⟩:=info_parts Tryz.infoBookingO;have m8:IntKind.i64.wrap ((x.bkn:Int)+1)=(x.bkn:Int)+1:=by rw[IntKind.wrap_i64];omega
      go_upto_region 13 with fail;have s:=hI (T.out.weak.below bZ.drew);have U:=hI ((T.out.own.below bZ.drew).bk.row);refine qy 19 20 (fun w'=>w'.cell? ⟨ob,0,none⟩=some (.slice J x.san O)/\w'.cell? ⟨ob,1,none⟩=some (.slice R x.ldn P)/\w'.cell? ⟨ob,2,none⟩=some (.slice Q x.bkn I)) rfl (by kernel_rfl) s.out.s (fun l=>?_)
      clear T;simp only[List.replicate_succ,List.replicate_zero];generalize u3.drew=y0 at s U l ⊢
      (refine tkL 0 (v:=?_) rfl (by kernel_rfl) (fun _ _ _ h=>h) rfl (by assumption) ?_ ?_;rotate_left;focus(intro w' h;(try dsimp only at h);go_simp;try with_reducible rfl);simp only[Act.put,sB,sZ,sS])
      (refine tkL 1 (v:=?_) rfl (by kernel_rfl) (fun _ _ _ h=>h) rfl (by assumption) ?_ ?_;rotate_left;focus(intro w' h;(try dsimp only at h);go_simp;try with_reducible rfl);simp only[Act.put,sB,sZ,sS])
      (refine tkL 2 (v:=?_) rfl (by kernel_rfl) (fun _ _ _ h=>h) rfl (by assumption) ?_ ?_;rotate_left;focus(intro w' h;(try dsimp only at h);go_simp;try with_reducible rfl);simp only[Act.put,sB,sZ,sS])
      (refine tkL 3 (v:=?_) rfl (by kernel_rfl) (fun _ _ _ h=>h) rfl (by assumption) ?_ ?_;rotate_left;focus(intro w' h;(try dsimp only at h);go_simp;try with_reducible rfl);simp only[Act.put,sB,sZ,sS])
      (refine tkL 4 (v:=?_) rfl (by kernel_rfl) (fun _ _ _ h=>h) rfl (by assumption) ?_ ?_;rotate_left;focus(intro w' h;(try dsimp only at h);go_simp;try with_reducible rfl);simp only[Act.put,sB,sZ,sS])
      (refine tkL 5 (v:=?_) rfl (by kernel_rfl) (fun _ _ _ h=>h) rfl (by assumption) ?_ ?_;rotate_left;focus(intro w' h;(try dsimp only at h);go_simp;try with_reducible rfl);simp only[Act.put,sB,sZ,sS])
      (refine tkL 6 (v:=?_) rfl (by kernel_rfl) (fun _ _ _ h=>h) rfl (by assumption) ?_ ?_;rotate_left;focus(intro w' h;(try dsimp only at h);go_simp;try with_reducible rfl);simp only[Act.put,sB,sZ,sS])
      (refine tkL 7 (v:=?_) rfl (by kernel_rfl) (fun _ _ _ h=>h) rfl (by assumption) ?_ ?_;rotate_left;focus(intro w' h;(try dsimp only at h);go_simp;try with_reducible rfl);simp only[Act.put,sB,sZ,sS])
      (refine tkL 8 (v:=?_) rfl (by kernel_rfl) (fun _ _ _ h=>h) rfl (by assumption) ?_ ?_;rotate_left;focus(intro w' h;(try dsimp only at h);go_simp;try with_reducible rfl);simp only[Act.put,sB,sZ,sS])
      (refine tkL 10 (v:=?_) rfl (by kernel_rfl) (fun _ _ _ h=>h) rfl (by assumption) ?_ ?_;rotate_left;focus(intro w' h;(try dsimp only at h);go_simp;try with_reducible rfl);simp only[Act.put,sB,sZ,sS])
      (refine tkL 12 (v:=?_) rfl (by kernel_rfl) (fun _ _ _ h=>h) rfl (by assumption) ?_ ?_;rotate_left;focus(intro w' h;(try dsimp only at h);go_simp;try with_reducible rfl);simp only[Act.put,sB,sZ,sS])
      refine zh (rs:=[9]) (by kernel_rfl) (by simp) ?_
      refine zd.consL rfl (fun K d=>?_) zd.nil
      go_simp;go_at_call 74;refine Calls.mono (zej X ao n c (90000000013000) J x.san O x.sa y0 (by omega) (by omega) s.out.cur s.out.sails ) ?_
      rintro e y1 ⟨⟨v,k,F,m0,rfl,ho⟩,G,p⟩;dsimp only;obtain⟨av,cv,rfl,_,_,_⟩:=zt ho;have W:=hI (s.out.on H G p);replace U:Hid (y1.ownsRow w.heap.size 131 13 (.slice Q x.bkn I) x.bkn (Qp x.bk E x.bkn)):=p.own U.out (fun g hg e=>by have e:g=X:=e;have:=(U.out.lt g hg).1;omega)
      refine d.out _ _ W.out.s (fun l=>?_)
      clear d K s G p ho;simp only[sZ,sS];refine zh (rs:=[11]) (by kernel_rfl) (by simp) ?_
      refine zd.consL rfl (fun K d=>?_) zd.nil
      go_simp;go_at_call 75;refine Calls.mono (zfD X ao n c (90000000013000+60) y1 (by omega) W.out.cur ) ?_
      rintro e y2 ⟨⟨x0,x1,x2,x3,x4,x5,rfl⟩,G,p⟩;dsimp only;have a0:=hI (W.out.on H G p);replace U:Hid (y2.ownsRow w.heap.size 131 13 (.slice Q x.bkn I) x.bkn (Qp x.bk E x.bkn)):=p.own U.out (fun g hg e=>by have e:g=X:=e;have:=(U.out.lt g hg).1;omega)
      refine d.out _ _ a0.out.s (fun l=>?_)
      clear d K W G p;simp only[sZ,sS];refine zh (rs:=[13]) (by kernel_rfl) (by simp) ?_
      refine zd.consL rfl (fun K d=>?_) zd.nil
      go_simp;go_at_call 59;refine Calls.mono (pick_any X ao n c (90000000013000+60+40) 5 y2 (by omega) (by omega) (by omega) a0.out.cur ) ?_
      rintro e y3 ⟨⟨q,rfl,hq⟩,G,p⟩;dsimp only;have g6:=hI (a0.out.on H G p);replace U:Hid (y3.ownsRow w.heap.size 131 13 (.slice Q x.bkn I) x.bkn (Qp x.bk E x.bkn)):=p.own U.out (fun g hg e=>by have e:g=X:=e;have:=(U.out.lt g hg).1;omega)
      have m9:IntKind.i64.wrap (1+(q:Int))=1+(q:Int):=by rw[IntKind.wrap_i64];omega
      refine d.out _ _ g6.out.s (fun l=>?_)
      clear d K a0 G p;simp only[sZ,sS]
      (refine tkL 14 (v:=?_) rfl (by kernel_rfl) (fun _ _ _ h=>h) rfl (by assumption) ?_ ?_;rotate_left;focus(intro w' h;(try dsimp only at h);go_simp;try with_reducible rfl);simp only[Act.put,sB,sZ,sS])
      (refine tkL 15 (v:=?_) rfl (by kernel_rfl) (fun _ _ _ h=>h) rfl (by assumption) ?_ ?_;rotate_left;focus(intro w' h;(try dsimp only at h);go_simp;try with_reducible rfl);simp only[Act.put,sB,sZ,sS])
      refine zh (rs:=[16]) (by kernel_rfl) (by simp) ?_
      refine zd.consL rfl (fun K d=>?_) zd.nil
      refine Q1 (by rfl) 64 131 1 #[(0,.tmp 56)] (by rfl) Tryz.underlying64 #[int i64 ((x.bkn:Int)+1),int i64 500,.string ⟨#[65,110,110]⟩,.slice av k cv,int i64 x0,int i64 x1,int i64 x2,int i64 x3,.bool x4,int i64 x5,int i64 (1+(q:Int)),int i64 0,int i64 0] (Eq.trans (congrArg (Program.builtSlice Tryz.prog 131 1) (show _=[(0,Value.agg #[int i64 ((x.bkn:Int)+1),int i64 500,.string ⟨#[65,110,110]⟩,.slice av k cv,int i64 x0,int i64 x1,int i64 x2,int i64 x3,.bool x4,int i64 x5,int i64 (1+(q:Int)),int i64 0,int i64 0])] from by first|(simp[go_sem];done)|rfl|kernel_rfl)) (zbJ ((x.bkn:Int)+1) 500 x0 x1 x2 x3 x5 (1+(q:Int)) 0 0 ⟨#[65,110,110]⟩ x4 av k cv)) ?_
      have c9:Hid (zbv w (y3.alloc (.cells #[int i64 ((x.bkn:Int)+1),int i64 500,.string ⟨#[65,110,110]⟩,.slice av k cv,int i64 x0,int i64 x1,int i64 x2,int i64 x3,.bool x4,int i64 x5,int i64 (1+(q:Int)),int i64 0,int i64 0] 131)) X ao n c (90000000013000+60+40+2) ob x.san x.sa J R Q x.ldn x.bkn O P I L C):=g6.out.below (zr bZ _);replace U:Hid ((y3.alloc (.cells #[int i64 ((x.bkn:Int)+1),int i64 500,.string ⟨#[65,110,110]⟩,.slice av k cv,int i64 x0,int i64 x1,int i64 x2,int i64 x3,.bool x4,int i64 x5,int i64 (1+(q:Int)),int i64 0,int i64 0] 131)).ownsRow w.heap.size 131 13 (.slice Q x.bkn I) x.bkn (Qp x.bk E x.bkn)):=zm (zr bZ _) U.out;have b9:Hid (∀ j u,[int i64 ((x.bkn:Int)+1),int i64 500,.string ⟨#[65,110,110]⟩,.slice av k cv,int i64 x0,int i64 x1,int i64 x2,int i64 x3,.bool x4,int i64 x5,int i64 (1+(q:Int)),int i64 0,int i64 0][j]?=some u->(y3.alloc (.cells #[int i64 ((x.bkn:Int)+1),int i64 500,.string ⟨#[65,110,110]⟩,.slice av k cv,int i64 x0,int i64 x1,int i64 x2,int i64 x3,.bool x4,int i64 x5,int i64 (1+(q:Int)),int i64 0,int i64 0] 131)).cell? ((⟨y3.heap.size,0,none⟩:Addr).add j)=some u):=World.news_of_block (cs:=#[int i64 ((x.bkn:Int)+1),int i64 500,.string ⟨#[65,110,110]⟩,.slice av k cv,int i64 x0,int i64 x1,int i64 x2,int i64 x3,.bool x4,int i64 x5,int i64 (1+(q:Int)),int i64 0,int i64 0]) (t:=131) (fr:=(0,0)) (heap_alloc_new y3 _);refine d.out _ _ c9.out.s (fun l=>?_)
      clear d K g6;simp only[Act.put,sB,sZ,sS];generalize y3.alloc (.cells #[int i64 ((x.bkn:Int)+1),int i64 500,.string ⟨#[65,110,110]⟩,.slice av k cv,int i64 x0,int i64 x1,int i64 x2,int i64 x3,.bool x4,int i64 x5,int i64 (1+(q:Int)),int i64 0,int i64 0] 131)=y4 at c9 U b9 l ⊢;refine zh (rs:=[17]) (by kernel_rfl) (by simp) ?_
      refine zd.consL rfl (fun K d=>?_) zd.nil
      refine step_append_lies _ (by rfl) (.tmp 42) (.tmp 57) 64 (by rfl) w.heap.size 131 r0 (.agg #[int i64 0,int i64 0,.string ⟨#[]⟩,.slice none 0 0,int i64 0,int i64 0,int i64 0,int i64 0,.bool false,int i64 0,int i64 0,int i64 0,int i64 0]) 13 128 Tryz.underlying64 ri k8 k9 l0 rfl (by decide) _ x.bkn (Qp x.bk E x.bkn) (by rfl) U.out ⟨y3.heap.size,0,none⟩ 1 1 [int i64 ((x.bkn:Int)+1),int i64 500,.string ⟨#[65,110,110]⟩,.slice av k cv,int i64 x0,int i64 x1,int i64 x2,int i64 x3,.bool x4,int i64 x5,int i64 (1+(q:Int)),int i64 0,int i64 0] (by rfl) (by rfl) b9.out (by intro u hu;simp at hu;rcases hu with rfl|rfl|rfl|rfl|rfl|rfl|rfl|rfl|rfl|rfl|rfl|rfl|rfl <;> rfl) (by decide) (by unfold maxLen;omega) (by omega) c9.out.kept.size _ rfl ?_
      intro g2 f6 y5 j9 i4 i3 i6;have e5:Hid (zbv w y5 X ao n c (90000000013000+60+40+2) ob x.san x.sa J R Q x.ldn x.bkn O P I L C):=c9.out.far H HL.out (zO i4) (fun b e=>⟨(U.out.lt b e).1,by obtain⟨cs,e2⟩:=zT U.out b e;exact⟨cs,_,e2,by decide,by decide,by decide,by decide⟩⟩)
      refine d.out _ _ e5.out.s (fun l=>?_)
      clear d K c9 U b9 j9 i4 i3 i6;simp only[Act.put,sB,sZ,sS]
      (refine tkL 18 (v:=?_) rfl (by kernel_rfl) (fun _ _ _ h=>h) rfl (by assumption) ?_ ?_;rotate_left;focus(intro w' h;(try dsimp only at h);go_simp;try with_reducible rfl);simp only[Act.put,sB,sZ,sS])
      have z2:=za e5.out.box 2 _ rfl;have h0:=zg e5.out.box 2;refine zh (rs:=[19]) (by kernel_rfl) (by simp) ?_
      refine zd.lastL rfl (fun K d=>?_)
      go_simp;refine d.out _ _ ?_;clear d K;refine zH (by kernel_rfl) ?_ _
      go_wp2;go_meet;exact⟨x.san,x.sa,J,R,some ⟨g2,0,none⟩,x.ldn,x.bkn+1,O,P,f6,L,C,a5,by omega,(e5.out.put2 H HL.out _ _ _).more (by omega)⟩
     ·have d0:((r:Int) == 0)=false:=by simpa using(show ¬ (r:Int)=0 by omega)
      by_cases e1:r=1
      ·subst e1
       by_cases hl0:0<x.ldn
       ·obtain⟨s0,si,l1,l2,l3⟩:=info_parts Tryz.infoSeat
        have e4:(0:Int)<(x.ldn:Int):=by omega
        have k1:=za T.out.box 1 _ rfl;obtain⟨g,d7,d6,c5⟩:=qw T.out.own.ld.row (by omega)
        subst d7;obtain⟨ad,cd,hD,j4,j5,j6⟩:=zt (T.out.own.ld.se 0 hl0);have b5:Hid (u3.drew.ownsRow w.heap.size 138 2 (.slice ad (x.ld 0).sen cd) (x.ld 0).sen (zW (x.ld 0).se (x.ld 0).sen)):=hD ▸ ((T.out.own.below bZ.drew).ld.se 0 hl0);have j3:=hI ((a7.2.1.2 0 hl0).2.2);obtain⟨a8,a6⟩:=zT T.out.own.ld.row g rfl;have c4:Hid (∀ z:World,z.heap[g]?=u3.heap[g]?->z.cell? ⟨g,2,none⟩=some (.slice ad (x.ld 0).sen cd)):=fun z hz=>by
         have h:=zK T.out.own.ld.row 2 (by omega) rfl
         rw[zM 3 _ 0 2 (by decide)] at h
         rw[← hD];exact(zdr hz).trans h
        have d8:w.heap.size<=g:=d6;go_upto_region 16 with fail;have s:=hI (T.out.weak.below bZ.drew);have o:=hI a6;refine qy 12 13 (fun w'=>w'.cell? ⟨ob,1,none⟩=some (.slice (some ⟨g,0,none⟩) x.ldn P)/\w'.cell? ⟨g,2,none⟩=some (.slice ad (x.ld 0).sen cd)) rfl (by kernel_rfl) ⟨s.out.s.2.1,c4.out _ rfl⟩ (fun l=>?_)
        replace c4:Hid (∀ z:World,z.heap[g]?=some (.cells a8 136 (0,0))->z.cell? ⟨g,2,none⟩=some (.slice ad (x.ld 0).sen cd)):=fun z hz=>c4.out z (hz.trans a6.symm)
        clear T a6 k1 hD j4 j5 j6;simp only[List.replicate_succ,List.replicate_zero];generalize u3.drew=y0 at s b5 o l ⊢
        (refine tkL 0 (v:=?_) rfl (by kernel_rfl) (fun _ _ _ h=>h) rfl (by assumption) ?_ ?_;rotate_left;focus(intro w' h;(try dsimp only at h);go_simp;try with_reducible rfl);simp only[Act.put,sB,sZ,sS])
        (refine tkL 1 (v:=?_) rfl (by kernel_rfl) (fun _ _ _ h=>h) rfl (by assumption) ?_ ?_;rotate_left;focus(intro w' h;(try dsimp only at h);go_simp;try with_reducible rfl);simp only[Act.put,sB,sZ,sS])
        (refine tkL 2 (v:=?_) rfl (by kernel_rfl) (fun _ _ _ h=>h) rfl (by assumption) ?_ ?_;rotate_left;focus(intro w' h;(try dsimp only at h);go_simp;try with_reducible rfl);simp only[Act.put,sB,sZ,sS])
        (refine tkL 3 (v:=?_) rfl (by kernel_rfl) (fun _ _ _ h=>h) rfl (by assumption) ?_ ?_;rotate_left;focus(intro w' h;(try dsimp only at h);go_simp;try with_reducible rfl);simp only[Act.put,sB,sZ,sS])
        (refine tkL 4 (v:=?_) rfl (by kernel_rfl) (fun _ _ _ h=>h) rfl (by assumption) ?_ ?_;rotate_left;focus(intro w' h;(try dsimp only at h);go_simp;try with_reducible rfl);simp only[Act.put,sB,sZ,sS])
        (refine tkL 5 (v:=?_) rfl (by kernel_rfl) (fun _ _ _ h=>h) rfl (by assumption) ?_ ?_;rotate_left;focus(intro w' h;(try dsimp only at h);go_simp;try with_reducible rfl);simp only[Act.put,sB,sZ,sS])
        (refine tkL 6 (v:=?_) rfl (by kernel_rfl) (fun _ _ _ h=>h) rfl (by assumption) ?_ ?_;rotate_left;focus(intro w' h;(try dsimp only at h);go_simp;try with_reducible rfl);simp only[Act.put,sB,sZ,sS])
        (refine tkL 7 (v:=?_) rfl (by kernel_rfl) (fun _ _ _ h=>h) rfl (by assumption) ?_ ?_;rotate_left;focus(intro w' h;(try dsimp only at h);go_simp;try with_reducible rfl);simp only[Act.put,sB,sZ,sS])
        refine zh (rs:=[8]) (by kernel_rfl) (by simp) ?_
        refine zd.consL rfl (fun K d=>?_) zd.nil
        go_simp;have W:Hid (zbv w (y0.alloc (.cells #[int i64 700,int i64 1] 138)) X ao n c (90000000013000) ob x.san x.sa J (some ⟨g,0,none⟩) Q x.ldn x.bkn O P I L C):=s.out.below (zr bZ _);replace b5:Hid ((y0.alloc (.cells #[int i64 700,int i64 1] 138)).ownsRow w.heap.size 138 2 (.slice ad (x.ld 0).sen cd) (x.ld 0).sen (zW (x.ld 0).se (x.ld 0).sen)):=zm (zr bZ _) b5.out;have b9:Hid (∀ j u,[Value.int .i64 700,int i64 1][j]?=some u->(y0.alloc (.cells #[int i64 700,int i64 1] 138)).cell? ((⟨y0.heap.size,0,none⟩:Addr).add j)=some u):=World.news_of_block (cs:=#[int i64 700,int i64 1]) (t:=138) (fr:=(0,0)) (heap_alloc_new y0 _);replace o:Hid ((y0.alloc (.cells #[int i64 700,int i64 1] 138)).heap[g]?=some (.cells a8 136 (0,0))):=ze o.out _;refine d.out _ _ ⟨W.out.s.2.1,c4.out _ o.out⟩ (fun l=>?_)
        clear d K s;simp only[sZ,sS];generalize y0.alloc (.cells #[int i64 700,int i64 1] 138)=y1 at W b5 b9 o l ⊢;refine zh (rs:=[9]) (by kernel_rfl) (by simp) ?_
        refine zd.consL rfl (fun K d=>?_) zd.nil
        have l6:=j3.out;refine step_append_lies _ (by rfl) (.tmp 72) (.tmp 74) 132 (by rfl) w.heap.size 138 s0 (.agg #[int i64 0,int i64 0]) 2 16 Tryz.underlying132 si l1 l2 l3 rfl (by decide) _ (x.ld 0).sen (zW (x.ld 0).se (x.ld 0).sen) (by rfl) b5.out ⟨y0.heap.size,0,none⟩ 1 1 [int i64 700,int i64 1] (by rfl) (by rfl) b9.out (by intro u hu;simp at hu;rcases hu with rfl|rfl <;> rfl) (by decide) (by unfold maxLen;omega) (by omega) W.out.kept.size _ rfl ?_
        intro g2 f6 y2 j8 c5 i2 i5;have a0:Hid (zbv w y2 X ao n c (90000000013000) ob x.san x.sa J (some ⟨g,0,none⟩) Q x.ldn x.bkn O P I L C):=W.out.far H HL.out (zO c5) (fun b e=>⟨(b5.out.lt b e).1,by obtain⟨cs,e2⟩:=zT b5.out b e;exact⟨cs,_,e2,by decide,by decide,by decide,by decide⟩⟩)
        replace o:Hid (y2.heap[g]?=some (.cells a8 136 (0,0))):=(zO c5).blk o.out (fun e=>by obtain⟨cs,e2⟩:=zT b5.out g e;rw[o.out] at e2;simp at e2)
        refine d.out _ _ ⟨a0.out.s.2.1,c4.out _ o.out⟩ (fun l=>?_)
        clear d K W b5 b9 j8 c5 i2 i5;simp only[Act.put,sB,sZ,sS]
        (refine tkL 10 (v:=?_) rfl (by kernel_rfl) (fun _ _ _ h=>h) rfl (by assumption) ?_ ?_;rotate_left;focus(intro w' h;(try dsimp only at h);go_simp;try with_reducible rfl);simp only[Act.put,sB,sZ,sS])
        (refine tkL 11 (v:=?_) rfl (by kernel_rfl) (fun _ _ _ h=>h) rfl (by assumption) ?_ ?_;rotate_left;focus(intro w' h;(try dsimp only at h);go_simp;try with_reducible rfl);simp only[Act.put,sB,sZ,sS])
        have z2:=c4.out _ o.out;have h0:=zg o.out 2;refine zh (rs:=[12]) (by kernel_rfl) (by simp) ?_
        refine zd.lastL rfl (fun K d=>?_)
        go_simp;refine d.out _ _ ?_;clear d K;refine zH (by kernel_rfl) ?_ _
        go_wp2;go_meet;exact⟨x.san,x.sa,J,some ⟨g,0,none⟩,Q,x.ldn,x.bkn,O,P,I,L,C,a5,by omega,(a0.out.far H HL.out ((zA.refl y2 (fun b=>b=g)).set (a:=⟨g,2,none⟩) rfl _) (fun b e=>by have e:b=g:=e;subst e;exact⟨d8,_,_,o.out,by decide,by decide,by decide,by decide⟩)).more (by omega)⟩
       ·have e4:¬ (0:Int)<(x.ldn:Int):=by omega
        have k1:=za T.out.box 1 _ rfl;go_wp2;go_meet;exact⟨x.san,x.sa,J,R,Q,x.ldn,x.bkn,O,P,I,L,C,a5,by omega,T.out.weak.more (by omega)⟩
      ·have d1:((r:Int) == 1)=false:=by simpa using(show ¬ (r:Int)=1 by omega)
       by_cases e2:r=2
       ·subst e2
        by_cases hb0':0<x.bkn
        ·have e4:(0:Int)<(x.bkn:Int):=by omega
         have k2:=za T.out.box 2 _ rfl;obtain⟨g,d7,d6,c5⟩:=qw T.out.own.bk.row (by omega)
         subst d7;obtain⟨a8,a6⟩:=zT T.out.own.bk.row g rfl;have c6:Hid (u3.cell? ⟨g,11,none⟩=some (int i64 (x.bk 0).unt)):=by
          have h:=zK T.out.own.bk.row 11 (by omega) rfl
          rw[zM 13 _ 0 11 (by decide)] at h
          exact h
         have d8:w.heap.size<=g:=d6;go_upto_region 19 with fail;have s:=hI (T.out.weak.below bZ.drew);have o:=hI a6;have c7:Hid (∀ z:World,z.heap[g]?=some (.cells a8 131 (0,0))->z.cell? ⟨g,11,none⟩=some (int i64 (x.bk 0).unt)):=fun z hz=>(zdr (hz.trans a6.symm)).trans c6.out
         refine qy 7 8 (fun w'=>w'.cell? ⟨ob,2,none⟩=some (.slice (some ⟨g,0,none⟩) x.bkn I)/\True) rfl (by kernel_rfl) ⟨s.out.s.2.2,trivial⟩ (fun l=>?_)
         clear T a6 k2 c6;simp only[List.replicate_succ,List.replicate_zero];generalize u3.drew=y0 at s o l ⊢
         (refine tkL 0 (v:=?_) rfl (by kernel_rfl) (fun _ _ _ h=>h) rfl (by assumption) ?_ ?_;rotate_left;focus(intro w' h;(try dsimp only at h);go_simp;try with_reducible rfl);simp only[Act.put,sB,sZ,sS])
         (refine tkL 1 (v:=?_) rfl (by kernel_rfl) (fun _ _ _ h=>h) rfl (by assumption) ?_ ?_;rotate_left;focus(intro w' h;(try dsimp only at h);go_simp;try with_reducible rfl);simp only[Act.put,sB,sZ,sS])
         (refine tkL 2 (v:=?_) rfl (by kernel_rfl) (fun _ _ _ h=>h) rfl (by assumption) ?_ ?_;rotate_left;focus(intro w' h;(try dsimp only at h);go_simp;try with_reducible rfl);simp only[Act.put,sB,sZ,sS])
         refine zh (rs:=[3]) (by kernel_rfl) (by simp) ?_
         refine zd.consL rfl (fun K d=>?_) zd.nil
         go_simp;have W:Hid (zbv w (y0.alloc (.cells #[int i64 (-1),int i64 0,int i64 1,int i64 10001] 3)) X ao n c (90000000013000) ob x.san x.sa J R (some ⟨g,0,none⟩) x.ldn x.bkn O P I L C):=s.out.below (zr bZ _);replace o:Hid ((y0.alloc (.cells #[int i64 (-1),int i64 0,int i64 1,int i64 10001] 3)).heap[g]?=some (.cells a8 131 (0,0))):=ze o.out _;have f8:Hid ((y0.alloc (.cells #[int i64 (-1),int i64 0,int i64 1,int i64 10001] 3)).heap[y0.heap.size]?=some (.cells #[int i64 (-1),int i64 0,int i64 1,int i64 10001] 3 (0,0))):=heap_alloc_new y0 _;have k5:X<y0.heap.size:=s.out.cur.lt;refine d.out _ _ ⟨W.out.s.2.2,trivial⟩ (fun l=>?_)
         clear d K s;simp only[sZ,sS];generalize (y0.alloc (.cells #[int i64 (-1),int i64 0,int i64 1,int i64 10001] 3))=y1 at W o f8 l ⊢;generalize y0.heap.size=bl at f8 k5 ⊢;refine zh (rs:=[4]) (by kernel_rfl) (by simp) ?_
         refine zd.consL rfl (fun K d=>?_) zd.nil
         go_simp;go_at_call 73;refine Calls.mono (amongL X ao n c (90000000013000) 4 [-1,0,1,10001] y1 rfl (by omega) (by omega) (by omega) W.out.cur bl f8.out (by omega) ) ?_
         rintro e y2 ⟨⟨q,rfl⟩,G,p⟩;dsimp only;have a0:=hI (W.out.on H G p);replace o:Hid (y2.heap[g]?=some (.cells a8 131 (0,0))):=p.blk o.out (show ¬ g=X by omega)
         refine d.out _ _ ⟨a0.out.s.2.2,trivial⟩ (fun l=>?_)
         clear d K W G p;simp only[sZ,sS]
         (refine tkL 5 (v:=?_) rfl (by kernel_rfl) (fun _ _ _ h=>h) rfl (by assumption) ?_ ?_;rotate_left;focus(intro w' h;(try dsimp only at h);go_simp;try with_reducible rfl);simp only[Act.put,sB,sZ,sS])
         (refine tkL 6 (v:=?_) rfl (by kernel_rfl) (fun _ _ _ h=>h) rfl (by assumption) ?_ ?_;rotate_left;focus(intro w' h;(try dsimp only at h);go_simp;try with_reducible rfl);simp only[Act.put,sB,sZ,sS])
         have z2:=c7.out _ o.out;have h0:=zg o.out 11;refine zh (rs:=[7]) (by kernel_rfl) (by simp) ?_
         refine zd.lastL rfl (fun K d=>?_)
         go_simp;refine d.out _ _ ?_;clear d K;refine zH (by kernel_rfl) ?_ _
         go_wp2;go_meet;exact⟨x.san,x.sa,J,R,some ⟨g,0,none⟩,x.ldn,x.bkn,O,P,I,L,C,a5,by omega,(a0.out.far H HL.out ((zA.refl y2 (fun b=>b=g)).set (a:=⟨g,11,none⟩) rfl _) (fun b e=>by have e:b=g:=e;subst e;exact⟨d8,_,_,o.out,by decide,by decide,by decide,by decide⟩)).more (by omega)⟩
        ·have e4:¬ (0:Int)<(x.bkn:Int):=by omega
         have k2:=za T.out.box 2 _ rfl;go_wp2;go_meet;exact⟨x.san,x.sa,J,R,Q,x.ldn,x.bkn,O,P,I,L,C,a5,by omega,T.out.weak.more (by omega)⟩
       ·have d2:((r:Int) == 2)=false:=by simpa using(show ¬ (r:Int)=2 by omega)
        by_cases e3:r=3
        ·subst e3
         by_cases hb0':0<x.bkn
         ·have e4:(0:Int)<(x.bkn:Int):=by omega
          have k2:=za T.out.box 2 _ rfl;obtain⟨g,d7,d6,c5⟩:=qw T.out.own.bk.row (by omega)
          subst d7;obtain⟨a8,a6⟩:=zT T.out.own.bk.row g rfl;have c6:Hid (u3.cell? ⟨g,10,none⟩=some (int i64 (x.bk 0).state)):=by
           have h:=zK T.out.own.bk.row 10 (by omega) rfl
           rw[zM 13 _ 0 10 (by decide)] at h
           exact h
          have d8:w.heap.size<=g:=d6;go_upto_region 22 with fail;have s:=hI (T.out.weak.below bZ.drew);have o:=hI a6;have c7:Hid (∀ z:World,z.heap[g]?=some (.cells a8 131 (0,0))->z.cell? ⟨g,10,none⟩=some (int i64 (x.bk 0).state)):=fun z hz=>(zdr (hz.trans a6.symm)).trans c6.out
          refine qy 6 7 (fun w'=>w'.cell? ⟨ob,2,none⟩=some (.slice (some ⟨g,0,none⟩) x.bkn I)/\True) rfl (by kernel_rfl) ⟨s.out.s.2.2,trivial⟩ (fun l=>?_)
          clear T a6 k2 c6;simp only[List.replicate_succ,List.replicate_zero];generalize u3.drew=y0 at s o l ⊢
          (refine tkL 0 (v:=?_) rfl (by kernel_rfl) (fun _ _ _ h=>h) rfl (by assumption) ?_ ?_;rotate_left;focus(intro w' h;(try dsimp only at h);go_simp;try with_reducible rfl);simp only[Act.put,sB,sZ,sS])
          (refine tkL 1 (v:=?_) rfl (by kernel_rfl) (fun _ _ _ h=>h) rfl (by assumption) ?_ ?_;rotate_left;focus(intro w' h;(try dsimp only at h);go_simp;try with_reducible rfl);simp only[Act.put,sB,sZ,sS])
          (refine tkL 2 (v:=?_) rfl (by kernel_rfl) (fun _ _ _ h=>h) rfl (by assumption) ?_ ?_;rotate_left;focus(intro w' h;(try dsimp only at h);go_simp;try with_reducible rfl);simp only[Act.put,sB,sZ,sS])
          refine zh (rs:=[3]) (by kernel_rfl) (by simp) ?_
          refine zd.consL rfl (fun K d=>?_) zd.nil
          go_simp;go_at_call 59;refine Calls.mono (pick_any X ao n c (90000000013000) 6 y0 (by omega) (by omega) (by omega) s.out.cur ) ?_
          rintro e y2 ⟨⟨q,rfl,hq⟩,G,p⟩;dsimp only;have a0:=hI (s.out.on H G p);replace o:Hid (y2.heap[g]?=some (.cells a8 131 (0,0))):=p.blk o.out (show ¬ g=X by omega)
          refine d.out _ _ ⟨a0.out.s.2.2,trivial⟩ (fun l=>?_)
          clear d K s G p;simp only[sZ,sS]
          (refine tkL 4 (v:=?_) rfl (by kernel_rfl) (fun _ _ _ h=>h) rfl (by assumption) ?_ ?_;rotate_left;focus(intro w' h;(try dsimp only at h);go_simp;try with_reducible rfl);simp only[Act.put,sB,sZ,sS])
          (refine tkL 5 (v:=?_) rfl (by kernel_rfl) (fun _ _ _ h=>h) rfl (by assumption) ?_ ?_;rotate_left;focus(intro w' h;(try dsimp only at h);go_simp;try with_reducible rfl);simp only[Act.put,sB,sZ,sS])
          have z2:=c7.out _ o.out;have h0:=zg o.out 10;refine zh (rs:=[6]) (by kernel_rfl) (by simp) ?_
          refine zd.lastL rfl (fun K d=>?_)
          go_simp;refine d.out _ _ ?_;clear d K;refine zH (by kernel_rfl) ?_ _
          go_wp2;go_meet;exact⟨x.san,x.sa,J,R,some ⟨g,0,none⟩,x.ldn,x.bkn,O,P,I,L,C,a5,by omega,(a0.out.far H HL.out ((zA.refl y2 (fun b=>b=g)).set (a:=⟨g,10,none⟩) rfl _) (fun b e=>by have e:b=g:=e;subst e;exact⟨d8,_,_,o.out,by decide,by decide,by decide,by decide⟩)).more (by omega)⟩
         ·have e4:¬ (0:Int)<(x.bkn:Int):=by omega
          have k2:=za T.out.box 2 _ rfl;go_wp2;go_meet;exact⟨x.san,x.sa,J,R,Q,x.ldn,x.bkn,O,P,I,L,C,a5,by omega,T.out.weak.more (by omega)⟩
        ·have d3:((r:Int) == 3)=false:=by simpa using(show ¬ (r:Int)=3 by omega)
         go_wp2;go_meet;exact⟨x.san,x.sa,J,R,Q,x.ldn,x.bkn,O,P,I,L,C,a5,by omega,T.out.weak.more (by omega)⟩
    case rest =>
     obtain⟨N,S,J,R,Q,m2,m3,O,P,I,L,C,hN,j7,HE⟩:=hcut;clear T;obtain⟨k0,k1,k2⟩:=ce3 HE.out.box;obtain⟨r0,r1,r2⟩:=ce3 HE.out.res;obtain⟨f0,f1,f2⟩:=fe3 HE.out.res;go_wp2;have HX:=HE.out.fin H HL.out (.slice J N O) (.slice R m2 P) (.slice Q m3 I);obtain⟨z0,z1,z2⟩:=ce3 HX.2.2.1;clear k0 k1 k2 r0 r1 r2 f0 f1 f2;exact bodyPost_ret (v:=.agg #[.slice J N O,.slice R m2 P,.slice Q m3 I]) (by simp[results,Tryz.results30,go_sem,z0,z1,z2]) rfl ⟨⟨N,S,J,R,Q,m2,m3,O,P,I,L,C,rfl,hN,j7,HX.2.2.2⟩,HX.1.more (by omega),HX.2.1⟩
theorem zgl {w:World}{a:Option Addr}{n c:Nat}(h:BytesAt w a n):CurX (w.alloc (.cells #[.slice a n c,int i64 0,.int .u64 0] 60)) w.heap.size a n c 0 :=
 ⟨0,0,Nat.le_refl _,heap_alloc_new w _,(cur_new (c:=c) h).2⟩
theorem zhm {w:World}{d n c a:Nat}{b:Option Addr}(h:CurX w d b n c a):CodeLow w b n:=h.is.code_lt
theorem zaR {w u:World}{B r:Nat}{cs:Array Value}(d:B<=r){k:Nat}{v:Value}{m:Nat}{b:List Value}(h:Below B w u/\u.heap[r]?=some (.cells cs 27 (0,0))/\u.ownsRow k 3 1 v m b)(i:Nat)(z:Value)(a:Array Value)(c:cs.setIfInBounds i z=a) :
  Below B w (u.setCell ⟨r,i,none⟩ z)/\(u.setCell ⟨r,i,none⟩ z).heap[r]?=some (.cells a 27 (0,0))/\(u.setCell ⟨r,i,none⟩ z).ownsRow k 3 1 v m b :=
 ⟨h.1.setCell (p:=⟨r,i,none⟩) d z,by rw[← c];exact zy h.2.1 i z,zeN h.2.2 h.2.1 (by decide) i z⟩
theorem op_end {w u:World}{B r:Nat}(b:B<=r){k:Nat}{a:Value}{m:Nat}{f:List Value}(y:OpD)(h:Below B w u)(g:u.heap[r]?=some (.cells #[int i64 0,.string ⟨#[]⟩,int i64 0,.slice none 0 0,int i64 0,int i64 0,int i64 0,int i64 0,.bool false,int i64 0,int i64 0,int i64 0] 27 (0,0)))(i:u.ownsRow k 3 1 a m f) :
  Below B w (QO u r y a)/\(QO u r y a).heap[r]?=some (.cells (ZV y a) 27 (0,0))/\(QO u r y a).ownsRow k 3 1 a m f:=by
 have j:Below B w u/\u.heap[r]?=some (.cells #[int i64 0,.string ⟨#[]⟩,int i64 0,.slice none 0 0,int i64 0,int i64 0,int i64 0,int i64 0,.bool false,int i64 0,int i64 0,int i64 0] 27 (0,0))/\u.ownsRow k 3 1 a m f:=⟨h,g,i⟩;have l:=zaR b j 0 (int i64 y.kind) #[int i64 y.kind,.string ⟨#[]⟩,int i64 0,.slice none 0 0,int i64 0,int i64 0,int i64 0,int i64 0,.bool false,int i64 0,int i64 0,int i64 0] rfl;have n:=zaR b l 1 (.string y.own) #[int i64 y.kind,.string y.own,int i64 0,.slice none 0 0,int i64 0,int i64 0,int i64 0,int i64 0,.bool false,int i64 0,int i64 0,int i64 0] rfl;have o:=zaR b n 2 (int i64 y.name) #[int i64 y.kind,.string y.own,int i64 y.name,.slice none 0 0,int i64 0,int i64 0,int i64 0,int i64 0,.bool false,int i64 0,int i64 0,int i64 0] rfl;have p:=zaR b o 3 (a) #[int i64 y.kind,.string y.own,int i64 y.name,a,int i64 0,int i64 0,int i64 0,int i64 0,.bool false,int i64 0,int i64 0,int i64 0] rfl;have q:=zaR b p 4 (int i64 y.pe) #[int i64 y.kind,.string y.own,int i64 y.name,a,int i64 y.pe,int i64 0,int i64 0,int i64 0,.bool false,int i64 0,int i64 0,int i64 0] rfl;have s:=zaR b q 5 (int i64 y.len) #[int i64 y.kind,.string y.own,int i64 y.name,a,int i64 y.pe,int i64 y.len,int i64 0,int i64 0,.bool false,int i64 0,int i64 0,int i64 0] rfl;have t:=zaR b s 6 (int i64 y.hei) #[int i64 y.kind,.string y.own,int i64 y.name,a,int i64 y.pe,int i64 y.len,int i64 y.hei,int i64 0,.bool false,int i64 0,int i64 0,int i64 0] rfl;have v:=zaR b t 7 (int i64 y.cl) #[int i64 y.kind,.string y.own,int i64 y.name,a,int i64 y.pe,int i64 y.len,int i64 y.hei,int i64 y.cl,.bool false,int i64 0,int i64 0,int i64 0] rfl;have x:=zaR b v 8 (.bool y.all) #[int i64 y.kind,.string y.own,int i64 y.name,a,int i64 y.pe,int i64 y.len,int i64 y.hei,int i64 y.cl,.bool y.all,int i64 0,int i64 0,int i64 0] rfl;have c:=zaR b x 9 (int i64 y.be) #[int i64 y.kind,.string y.own,int i64 y.name,a,int i64 y.pe,int i64 y.len,int i64 y.hei,int i64 y.cl,.bool y.all,int i64 y.be,int i64 0,int i64 0] rfl;have d:=zaR b c 10 (int i64 y.unt) #[int i64 y.kind,.string y.own,int i64 y.name,a,int i64 y.pe,int i64 y.len,int i64 y.hei,int i64 y.cl,.bool y.all,int i64 y.be,int i64 y.unt,int i64 0] rfl;have e:=zaR b d 11 (int i64 y.now) #[int i64 y.kind,.string y.own,int i64 y.name,a,int i64 y.pe,int i64 y.len,int i64 y.hei,int i64 y.cl,.bool y.all,int i64 y.be,int i64 y.unt,int i64 y.now] rfl;exact e
def DrewTop (w:World)(e:Ending)(w':World):Prop :=
 (∃ (y:OpD) (a:Option Addr) (b:Nat),e=.returned (.agg (ZV y (.slice a y.lgn b)))/\y.own.size<=10/\y.lgn<=7/\Hid (w'.ownsRow w.heap.size 3 1 (.slice a y.lgn b) y.lgn (zJ y.lg y.lgn)))/\Below w.heap.size w w'
theorem zdO (q:Option Addr)(n c:Nat)(w:World)(hn:n<=1048576)(h:BytesAt w q n) :
  Calls Tryz.prog 13 #[.slice q n c] w fun e w'=>DrewTop w e w':=by
 have l:Below w.heap.size w (w.alloc (.cells #[int i64 0,.string ⟨#[]⟩,int i64 0,.slice none 0 0,int i64 0,int i64 0,int i64 0,int i64 0,.bool false,int i64 0,int i64 0,int i64 0] 27)):=zr bZ _;have P:=heap_alloc_new w (.cells #[int i64 0,.string ⟨#[]⟩,int i64 0,.slice none 0 0,int i64 0,int i64 0,int i64 0,int i64 0,.bool false,int i64 0,int i64 0,int i64 0] 27);have z:(w.alloc (.cells #[int i64 0,.string ⟨#[]⟩,int i64 0,.slice none 0 0,int i64 0,int i64 0,int i64 0,int i64 0,.bool false,int i64 0,int i64 0,int i64 0] 27)).heap.size=w.heap.size+1:=by simp
 have hB:=h.below l;go_enter Tryz.func13,Tryz.ntmps13;go_wp2_with fail;generalize w.alloc (.cells #[int i64 0,.string ⟨#[]⟩,int i64 0,.slice none 0 0,int i64 0,int i64 0,int i64 0,int i64 0,.bool false,int i64 0,int i64 0,int i64 0] 27)=V at l P z hB ⊢;have i:=zgl (c:=c) hB;have o:Below V.heap.size V (V.alloc (.cells #[.slice q n c,int i64 0,.int .u64 0] 60)):=zr bZ _;have r:=zc P o;have a6:(V.alloc (.cells #[.slice q n c,int i64 0,.int .u64 0] 60)).heap.size=w.heap.size+1+1:=by simp[z]
 rw[z] at i;generalize V.alloc (.cells #[.slice q n c,int i64 0,.int .u64 0] 60)=V2 at i o r a6 ⊢;have G:=zj l o;have B:=hI (zhm i);refine(zim (w.heap.size+1) q n c 0 V2 (by omega) hn (by omega) B i).mono ?_
 rintro e w1 ⟨⟨N,S,a1,a2,a3,m2,m3,c1,c2,c3,L,C,rfl,hN,b5,hO⟩,t,m⟩;have D:=m.blk r (by omega)
 have b6:=m.size;have HS:Hid (∀ u,zA w1 u (fun b=>b=w.heap.size+1)->SailsAt u a1 N S):=fun u hk=>by
  obtain⟨⟨p,s,hp,hb⟩,_⟩:=t;exact(hO.other hk (fun b e=>by have e:b=w.heap.size+1:=e;subst e;exact⟨_,_,hb,by decide,by decide,by decide⟩)).at
 have A:Hid (Below w.heap.size w w1):=zA.below G (by omega) m (fun k e=>by have e:k=w.heap.size+1:=e;omega)
 clear hO P r i o B l G hB;go_wp2_with fail;refine(op_any (w.heap.size+1) q n c 90000000100000 a1 a2 a3 N c1 m2 c2 m3 c3 S w1 (by omega) (by omega) (by omega) t HS.out).mono ?_
 rintro e f ⟨⟨y,a,d,rfl,a7,a8,H⟩,_,x⟩;have j:=x.blk D (by omega)
 have M:Hid (Below w.heap.size w f):=zA.below A.out (by omega) x (fun k e=>by have e:k=w.heap.size+1:=e;omega)
 have O:Hid (f.ownsRow w.heap.size 3 1 (.slice a y.lgn d) y.lgn (zJ y.lg y.lgn)):=zE H (by omega)
 clear H x t HS A D m;obtain⟨m0,m1,m2,m3,m4,m5,m6,m7,m8,m9,a9,b0⟩:=ce12 j;obtain⟨Q,R,T,U,W,X,Y,Z,a0,a5,E,F⟩:=fe12 j;have I:ZV y (.slice a y.lgn d)=#[int i64 y.kind,.string y.own,int i64 y.name,.slice a y.lgn d,int i64 y.pe,int i64 y.len,int i64 y.hei,int i64 y.cl,.bool y.all,int i64 y.be,int i64 y.unt,int i64 y.now]:=rfl;rw[I];go_wp2;have g:=op_end (Nat.le_refl _) y M.out j O.out;clear I j m0 Q m1 R m2 T m3 U m4 W m5 X m6 Y m7 Z m8 a0 m9 a5 a9 E b0 F;have z0:(QO f w.heap.size y (.slice a y.lgn d)).cell? ⟨w.heap.size,0,none⟩=some (int i64 y.kind):=za g.2.1 0 _ rfl;have z1:(QO f w.heap.size y (.slice a y.lgn d)).cell? ⟨w.heap.size,1,none⟩=some (.string y.own):=za g.2.1 1 _ rfl;have z2:(QO f w.heap.size y (.slice a y.lgn d)).cell? ⟨w.heap.size,2,none⟩=some (int i64 y.name):=za g.2.1 2 _ rfl;have z3:(QO f w.heap.size y (.slice a y.lgn d)).cell? ⟨w.heap.size,3,none⟩=some (.slice a y.lgn d):=za g.2.1 3 _ rfl;have z4:(QO f w.heap.size y (.slice a y.lgn d)).cell? ⟨w.heap.size,4,none⟩=some (int i64 y.pe):=za g.2.1 4 _ rfl;have z5:(QO f w.heap.size y (.slice a y.lgn d)).cell? ⟨w.heap.size,5,none⟩=some (int i64 y.len):=za g.2.1 5 _ rfl;have z6:(QO f w.heap.size y (.slice a y.lgn d)).cell? ⟨w.heap.size,6,none⟩=some (int i64 y.hei):=za g.2.1 6 _ rfl;have z7:(QO f w.heap.size y (.slice a y.lgn d)).cell? ⟨w.heap.size,7,none⟩=some (int i64 y.cl):=za g.2.1 7 _ rfl;have z8:(QO f w.heap.size y (.slice a y.lgn d)).cell? ⟨w.heap.size,8,none⟩=some (.bool y.all):=za g.2.1 8 _ rfl;have z9:(QO f w.heap.size y (.slice a y.lgn d)).cell? ⟨w.heap.size,9,none⟩=some (int i64 y.be):=za g.2.1 9 _ rfl;have J:(QO f w.heap.size y (.slice a y.lgn d)).cell? ⟨w.heap.size,10,none⟩=some (int i64 y.unt):=za g.2.1 10 _ rfl;have K:(QO f w.heap.size y (.slice a y.lgn d)).cell? ⟨w.heap.size,11,none⟩=some (int i64 y.now):=za g.2.1 11 _ rfl
 change bodyPost _ _ _ _ _ (QO f w.heap.size y (.slice a y.lgn d))
 generalize QO f w.heap.size y (.slice a y.lgn d)=wE at g z0 z1 z2 z3 z4 z5 z6 z7 z8 z9 J K ⊢;exact bodyPost_ret (v:=.agg (ZV y (.slice a y.lgn d))) (by simp[results,Tryz.results13,go_sem,ZV,z0,z1,z2,z3,z4,z5,z6,z7,z8,z9,J,K]) rfl ⟨⟨y,a,d,rfl,a7,a8,g.2.2⟩,g.1⟩
theorem zdP (t:Option Addr)(n c:Nat)(w:World)(hn:n<=1048576)(h:BytesAt w t n) :
  Calls Tryz.prog 4 #[.slice t n c] w fun e w'=>DrewTop w e w':=by
 have g:Below w.heap.size w (w.alloc (.cells #[int i64 0,.string ⟨#[]⟩,int i64 0,.slice none 0 0,int i64 0,int i64 0,int i64 0,int i64 0,.bool false,int i64 0,int i64 0,int i64 0] 27)):=zr bZ _;have u:=heap_alloc_new w (.cells #[int i64 0,.string ⟨#[]⟩,int i64 0,.slice none 0 0,int i64 0,int i64 0,int i64 0,int i64 0,.bool false,int i64 0,int i64 0,int i64 0] 27);go_enter Tryz.func4,Tryz.ntmps4;go_wp2_with fail;generalize w.alloc (.cells #[int i64 0,.string ⟨#[]⟩,int i64 0,.slice none 0 0,int i64 0,int i64 0,int i64 0,int i64 0,.bool false,int i64 0,int i64 0,int i64 0] 27)=V at g u ⊢;refine(zdO t n c V hn (h.below g)).mono ?_;rintro e f ⟨⟨y,a,b,rfl,I,J,m⟩,j⟩;have i:=zc u j;have r:=hI (zj g j);have s:=hI (zE m.out g.size);clear m j g u;obtain⟨X,m1,m2,m3,m4,Y,Z,m7,m8,m9,K,L⟩:=ce12 i;obtain⟨x,z,A,B,C,D,E,F,G,H,k,l⟩:=fe12 i;have o:ZV y (.slice a y.lgn b)=#[int i64 y.kind,.string y.own,int i64 y.name,.slice a y.lgn b,int i64 y.pe,int i64 y.len,int i64 y.hei,int i64 y.cl,.bool y.all,int i64 y.be,int i64 y.unt,int i64 y.now]:=rfl;rw[o];go_wp2;have d:=op_end (Nat.le_refl _) y r.out i s.out;clear o i X x m1 z m2 A m3 B m4 C Y D Z E m7 F m8 G m9 H K k L l;have M:(QO f w.heap.size y (.slice a y.lgn b)).cell? ⟨w.heap.size,0,none⟩=some (int i64 y.kind):=za d.2.1 0 _ rfl;have N:(QO f w.heap.size y (.slice a y.lgn b)).cell? ⟨w.heap.size,1,none⟩=some (.string y.own):=za d.2.1 1 _ rfl;have O:(QO f w.heap.size y (.slice a y.lgn b)).cell? ⟨w.heap.size,2,none⟩=some (int i64 y.name):=za d.2.1 2 _ rfl;have P:(QO f w.heap.size y (.slice a y.lgn b)).cell? ⟨w.heap.size,3,none⟩=some (.slice a y.lgn b):=za d.2.1 3 _ rfl;have Q:(QO f w.heap.size y (.slice a y.lgn b)).cell? ⟨w.heap.size,4,none⟩=some (int i64 y.pe):=za d.2.1 4 _ rfl;have R:(QO f w.heap.size y (.slice a y.lgn b)).cell? ⟨w.heap.size,5,none⟩=some (int i64 y.len):=za d.2.1 5 _ rfl;have S:(QO f w.heap.size y (.slice a y.lgn b)).cell? ⟨w.heap.size,6,none⟩=some (int i64 y.hei):=za d.2.1 6 _ rfl;have T:(QO f w.heap.size y (.slice a y.lgn b)).cell? ⟨w.heap.size,7,none⟩=some (int i64 y.cl):=za d.2.1 7 _ rfl;have U:(QO f w.heap.size y (.slice a y.lgn b)).cell? ⟨w.heap.size,8,none⟩=some (.bool y.all):=za d.2.1 8 _ rfl;have W:(QO f w.heap.size y (.slice a y.lgn b)).cell? ⟨w.heap.size,9,none⟩=some (int i64 y.be):=za d.2.1 9 _ rfl;have p:(QO f w.heap.size y (.slice a y.lgn b)).cell? ⟨w.heap.size,10,none⟩=some (int i64 y.unt):=za d.2.1 10 _ rfl;have q:(QO f w.heap.size y (.slice a y.lgn b)).cell? ⟨w.heap.size,11,none⟩=some (int i64 y.now):=za d.2.1 11 _ rfl
 change bodyPost _ _ _ _ _ (QO f w.heap.size y (.slice a y.lgn b))
 generalize QO f w.heap.size y (.slice a y.lgn b)=wE at d M N O P Q R S T U W p q ⊢;exact bodyPost_ret (v:=.agg (ZV y (.slice a y.lgn b))) (by simp[results,Tryz.results4,go_sem,ZV,M,N,O,P,Q,R,S,T,U,W,p,q]) rfl ⟨⟨y,a,b,rfl,I,J,d.2.2⟩,d.1⟩
def zhJ (w:World)(e:Ending)(w':World):Prop :=
 (∃ (x:Sail) (lo c:Option Addr) (a b:Nat),e=.returned (.agg #[int i64 x.id,.string x.fr,.string x.dst,int i64 x.dep,int i64 x.arr,.slice lo x.la.n a,.slice c x.ca.n b,int i64 x.most])/\Hid (w'.ownsRow w.heap.size 106 2 (.slice lo x.la.n a) x.la.n (zG x.la)/\w'.ownsRow w.heap.size 110 2 (.slice c x.ca.n b) x.ca.n (zG x.ca)/\ShortS x 100))/\Below w.heap.size w w'
def zcY (u:World)(r:Nat)(x:Sail)(vl vc:Value):World:=((((((((u.setCell ⟨r,0,none⟩ (int i64 x.id)).setCell ⟨r,1,none⟩ (.string x.fr)).setCell ⟨r,2,none⟩ (.string x.dst)).setCell ⟨r,3,none⟩ (int i64 x.dep)).setCell ⟨r,4,none⟩ (int i64 x.arr)).setCell ⟨r,5,none⟩ (vl)).setCell ⟨r,6,none⟩ (vc)).setCell ⟨r,7,none⟩ (int i64 x.most))
theorem zac {w u:World}{B r:Nat}{cs:Array Value}(j:B<=r){k:Nat}{vl vc:Value}{m m2:Nat}{f d:List Value}(h:Below B w u/\u.heap[r]?=some (.cells cs 37 (0,0))/\u.ownsRow k 106 2 vl m f/\u.ownsRow k 110 2 vc m2 d)(i:Nat)(z:Value)(c:Array Value)(g:cs.setIfInBounds i z=c) :
  Below B w (u.setCell ⟨r,i,none⟩ z)/\(u.setCell ⟨r,i,none⟩ z).heap[r]?=some (.cells c 37 (0,0))/\(u.setCell ⟨r,i,none⟩ z).ownsRow k 106 2 vl m f/\(u.setCell ⟨r,i,none⟩ z).ownsRow k 110 2 vc m2 d :=
 have e:=(zA.refl u (fun b=>b=r)).set (a:=⟨r,i,none⟩) rfl z
 ⟨h.1.setCell (p:=⟨r,i,none⟩) j z,by rw[← g];exact zy h.2.1 i z,e.own h.2.2.1 (qR h.2.2.1 h.2.1 (by decide)),e.own h.2.2.2 (qR h.2.2.2 h.2.1 (by decide))⟩
theorem zhK {w u:World}{B r:Nat}(a:B<=r){k:Nat}{vl vc:Value}{m m2:Nat}{c b:List Value}(x:Sail)(d:Below B w u/\u.heap[r]?=some (.cells #[int i64 0,.string ⟨#[]⟩,.string ⟨#[]⟩,int i64 0,int i64 0,.slice none 0 0,.slice none 0 0,int i64 0] 37 (0,0))/\u.ownsRow k 106 2 vl m c/\u.ownsRow k 110 2 vc m2 b) :
  Below B w (zcY u r x vl vc)/\(zcY u r x vl vc).heap[r]?=some (.cells #[int i64 x.id,.string x.fr,.string x.dst,int i64 x.dep,int i64 x.arr,vl,vc,int i64 x.most] 37 (0,0))/\(zcY u r x vl vc).ownsRow k 106 2 vl m c/\(zcY u r x vl vc).ownsRow k 110 2 vc m2 b:=by
 have e:=zac a d 0 (int i64 x.id) #[int i64 x.id,.string ⟨#[]⟩,.string ⟨#[]⟩,int i64 0,int i64 0,.slice none 0 0,.slice none 0 0,int i64 0] rfl;have f:=zac a e 1 (.string x.fr) #[int i64 x.id,.string x.fr,.string ⟨#[]⟩,int i64 0,int i64 0,.slice none 0 0,.slice none 0 0,int i64 0] rfl;have g:=zac a f 2 (.string x.dst) #[int i64 x.id,.string x.fr,.string x.dst,int i64 0,int i64 0,.slice none 0 0,.slice none 0 0,int i64 0] rfl;have h:=zac a g 3 (int i64 x.dep) #[int i64 x.id,.string x.fr,.string x.dst,int i64 x.dep,int i64 0,.slice none 0 0,.slice none 0 0,int i64 0] rfl;have i:=zac a h 4 (int i64 x.arr) #[int i64 x.id,.string x.fr,.string x.dst,int i64 x.dep,int i64 x.arr,.slice none 0 0,.slice none 0 0,int i64 0] rfl;have j:=zac a i 5 (vl) #[int i64 x.id,.string x.fr,.string x.dst,int i64 x.dep,int i64 x.arr,vl,.slice none 0 0,int i64 0] rfl;have l:=zac a j 6 (vc) #[int i64 x.id,.string x.fr,.string x.dst,int i64 x.dep,int i64 x.arr,vl,vc,int i64 0] rfl;have n:=zac a l 7 (int i64 x.most) #[int i64 x.id,.string x.fr,.string x.dst,int i64 x.dep,int i64 x.arr,vl,vc,int i64 x.most] rfl;exact n
theorem zcS (q:Option Addr)(n c:Nat)(w:World)(hn:n<=1048576)(h:BytesAt w q n) :
  Calls Tryz.prog 23 #[.slice q n c] w fun e w'=>zhJ w e w':=by
 have j:Below w.heap.size w (w.alloc (.cells #[int i64 0,.string ⟨#[]⟩,.string ⟨#[]⟩,int i64 0,int i64 0,.slice none 0 0,.slice none 0 0,int i64 0] 37)):=zr bZ _;have H:=heap_alloc_new w (.cells #[int i64 0,.string ⟨#[]⟩,.string ⟨#[]⟩,int i64 0,int i64 0,.slice none 0 0,.slice none 0 0,int i64 0] 37);have y:(w.alloc (.cells #[int i64 0,.string ⟨#[]⟩,.string ⟨#[]⟩,int i64 0,int i64 0,.slice none 0 0,.slice none 0 0,int i64 0] 37)).heap.size=w.heap.size+1:=by simp
 have Q:=h.below j;go_enter Tryz.func23,Tryz.ntmps23;go_wp2_with fail;generalize w.alloc (.cells #[int i64 0,.string ⟨#[]⟩,.string ⟨#[]⟩,int i64 0,int i64 0,.slice none 0 0,.slice none 0 0,int i64 0] 37)=V at j H y Q ⊢;have l:=zgl (c:=c) Q;have o:Below V.heap.size V (V.alloc (.cells #[.slice q n c,int i64 0,.int .u64 0] 60)):=zr bZ _;have t:=zc H o;have S:(V.alloc (.cells #[.slice q n c,int i64 0,.int .u64 0] 60)).heap.size=w.heap.size+1+1:=by simp[y]
 rw[y] at l;generalize V.alloc (.cells #[.slice q n c,int i64 0,.int .u64 0] 60)=V2 at l o t S ⊢;have D:=zj j o;refine(pickC (w.heap.size+1) q n c 0 9 V2 (by omega) (by omega) (by omega) l).mono ?_
 rintro e T ⟨⟨r,rfl,hr⟩,R,m⟩;have C:=m.blk t (by omega)
 have a0:=m.size;have A:Hid (Below w.heap.size w T):=zA.below D (by omega) m (fun k e=>by have e:k=w.heap.size+1:=e;omega)
 have a1:IntKind.i64.wrap (1+(r:Int))=1+(r:Int):=by rw[IntKind.wrap_i64];omega
 obtain⟨p,s,hp,E⟩:=R;clear H t l o j D Q m;go_wp2_with fail;refine(sailing_any (w.heap.size+1) q n c p s (1+(r:Int)) T (by omega) hn E).mono ?_
 rintro e f ⟨⟨x,vl,vc,rfl,z⟩,_,u⟩;obtain⟨lo,a,rfl,_,_,_⟩:=zt z.out.1;obtain⟨d,b,rfl,_,_,_⟩:=zt z.out.2.1;have i:=u.blk C (by omega)
 have F:Hid (Below w.heap.size w f):=zA.below A.out (by omega) u (fun k e=>by have e:k=w.heap.size+1:=e;omega)
 have B:Hid (f.ownsRow w.heap.size 106 2 (.slice lo x.la.n a) x.la.n (zG x.la)/\f.ownsRow w.heap.size 110 2 (.slice d x.ca.n b) x.ca.n (zG x.ca)):=⟨zE z.out.1 (by omega),zE z.out.2.1 (by omega)⟩
 have G:=hI z.out.2.2;clear u E A C z;obtain⟨m0,m1,m2,m3,m4,m5,m6,m7⟩:=ce8 i;obtain⟨I,J,K,L,M,N,O,P⟩:=fe8 i;go_wp2;have g:=zhK (Nat.le_refl _) x ⟨F.out,i,B.out.1,B.out.2⟩;clear i m0 I m1 J m2 K m3 L m4 M m5 N m6 O m7 P;have U:(zcY f w.heap.size x (.slice lo x.la.n a) (.slice d x.ca.n b)).cell? ⟨w.heap.size,0,none⟩=some (int i64 x.id):=za g.2.1 0 _ rfl;have W:(zcY f w.heap.size x (.slice lo x.la.n a) (.slice d x.ca.n b)).cell? ⟨w.heap.size,1,none⟩=some (.string x.fr):=za g.2.1 1 _ rfl;have X:(zcY f w.heap.size x (.slice lo x.la.n a) (.slice d x.ca.n b)).cell? ⟨w.heap.size,2,none⟩=some (.string x.dst):=za g.2.1 2 _ rfl;have Y:(zcY f w.heap.size x (.slice lo x.la.n a) (.slice d x.ca.n b)).cell? ⟨w.heap.size,3,none⟩=some (int i64 x.dep):=za g.2.1 3 _ rfl;have Z:(zcY f w.heap.size x (.slice lo x.la.n a) (.slice d x.ca.n b)).cell? ⟨w.heap.size,4,none⟩=some (int i64 x.arr):=za g.2.1 4 _ rfl;have z5:(zcY f w.heap.size x (.slice lo x.la.n a) (.slice d x.ca.n b)).cell? ⟨w.heap.size,5,none⟩=some (.slice lo x.la.n a):=za g.2.1 5 _ rfl;have z6:(zcY f w.heap.size x (.slice lo x.la.n a) (.slice d x.ca.n b)).cell? ⟨w.heap.size,6,none⟩=some (.slice d x.ca.n b):=za g.2.1 6 _ rfl;have z7:(zcY f w.heap.size x (.slice lo x.la.n a) (.slice d x.ca.n b)).cell? ⟨w.heap.size,7,none⟩=some (int i64 x.most):=za g.2.1 7 _ rfl
 change bodyPost _ _ _ _ _ (zcY f w.heap.size x (.slice lo x.la.n a) (.slice d x.ca.n b))
 generalize zcY f w.heap.size x (.slice lo x.la.n a) (.slice d x.ca.n b)=wE at g U W X Y Z z5 z6 z7 ⊢;exact bodyPost_ret (v:=.agg #[int i64 x.id,.string x.fr,.string x.dst,int i64 x.dep,int i64 x.arr,.slice lo x.la.n a,.slice d x.ca.n b,int i64 x.most]) (by simp[results,Tryz.results23,go_sem,U,W,X,Y,Z,z5,z6,z7]) rfl ⟨⟨x,lo,d,a,b,rfl,g.2.2.1,g.2.2.2,G.out⟩,g.1⟩
theorem zcT (q:Option Addr)(n c:Nat)(w:World)(hn:n<=1048576)(h:BytesAt w q n) :
  Calls Tryz.prog 9 #[.slice q n c] w fun e w'=>zhJ w e w':=by
 have f:Below w.heap.size w (w.alloc (.cells #[int i64 0,.string ⟨#[]⟩,.string ⟨#[]⟩,int i64 0,int i64 0,.slice none 0 0,.slice none 0 0,int i64 0] 37)):=zr bZ _;have r:=heap_alloc_new w (.cells #[int i64 0,.string ⟨#[]⟩,.string ⟨#[]⟩,int i64 0,int i64 0,.slice none 0 0,.slice none 0 0,int i64 0] 37);go_enter Tryz.func9,Tryz.ntmps9;go_wp2_with fail;generalize w.alloc (.cells #[int i64 0,.string ⟨#[]⟩,.string ⟨#[]⟩,int i64 0,int i64 0,.slice none 0 0,.slice none 0 0,int i64 0] 37)=V at f r ⊢;refine(zcS q n c V hn (h.below f)).mono ?_;rintro e i ⟨⟨x,lo,d,a,b,rfl,m⟩,k⟩;have j:=zc r k;have o:=hI (zj f k);have l:Hid (i.ownsRow w.heap.size 106 2 (.slice lo x.la.n a) x.la.n (zG x.la)/\i.ownsRow w.heap.size 110 2 (.slice d x.ca.n b) x.ca.n (zG x.ca)):=⟨zE m.out.1 f.size,zE m.out.2.1 f.size⟩;have p:=hI m.out.2.2;clear k f r m;obtain⟨L,m1,m2,m3,m4,M,N,O⟩:=ce8 j;obtain⟨s,t,u,y,z,A,B,C⟩:=fe8 j;go_wp2;have g:=zhK (Nat.le_refl _) x ⟨o.out,j,l.out.1,l.out.2⟩;clear j L s m1 t m2 u m3 y m4 z M A N B O C;have D:(zcY i w.heap.size x (.slice lo x.la.n a) (.slice d x.ca.n b)).cell? ⟨w.heap.size,0,none⟩=some (int i64 x.id):=za g.2.1 0 _ rfl;have E:(zcY i w.heap.size x (.slice lo x.la.n a) (.slice d x.ca.n b)).cell? ⟨w.heap.size,1,none⟩=some (.string x.fr):=za g.2.1 1 _ rfl;have F:(zcY i w.heap.size x (.slice lo x.la.n a) (.slice d x.ca.n b)).cell? ⟨w.heap.size,2,none⟩=some (.string x.dst):=za g.2.1 2 _ rfl;have G:(zcY i w.heap.size x (.slice lo x.la.n a) (.slice d x.ca.n b)).cell? ⟨w.heap.size,3,none⟩=some (int i64 x.dep):=za g.2.1 3 _ rfl;have H:(zcY i w.heap.size x (.slice lo x.la.n a) (.slice d x.ca.n b)).cell? ⟨w.heap.size,4,none⟩=some (int i64 x.arr):=za g.2.1 4 _ rfl;have I:(zcY i w.heap.size x (.slice lo x.la.n a) (.slice d x.ca.n b)).cell? ⟨w.heap.size,5,none⟩=some (.slice lo x.la.n a):=za g.2.1 5 _ rfl;have J:(zcY i w.heap.size x (.slice lo x.la.n a) (.slice d x.ca.n b)).cell? ⟨w.heap.size,6,none⟩=some (.slice d x.ca.n b):=za g.2.1 6 _ rfl;have K:(zcY i w.heap.size x (.slice lo x.la.n a) (.slice d x.ca.n b)).cell? ⟨w.heap.size,7,none⟩=some (int i64 x.most):=za g.2.1 7 _ rfl
 change bodyPost _ _ _ _ _ (zcY i w.heap.size x (.slice lo x.la.n a) (.slice d x.ca.n b))
 generalize zcY i w.heap.size x (.slice lo x.la.n a) (.slice d x.ca.n b)=wE at g D E F G H I J K ⊢;exact bodyPost_ret (v:=.agg #[int i64 x.id,.string x.fr,.string x.dst,int i64 x.dep,int i64 x.arr,.slice lo x.la.n a,.slice d x.ca.n b,int i64 x.most]) (by simp[results,Tryz.results9,go_sem,D,E,F,G,H,I,J,K]) rfl ⟨⟨x,lo,d,a,b,rfl,g.2.2.1,g.2.2.2,p.out⟩,g.1⟩
section
open Go.Shelf
shelf_lay LaysM.n171 Nm 171 at Tryz as Tryz.lays171
shelf_lay Lays.n156 Nm 156 at Tryz as Tryz.lays156
end Go.Proofs
namespace Go.Proofs.YtfallpinmhbemaaGreatDoor
open Go.RowKit
theorem Tryz.gPow : Tryz.prog.globalNamed "internal/strconv.uint64pow10" = some 4 := by kernel_rfl
def PowAt (w : World) : Prop := Lib.TabIs Tryz.prog w "internal/strconv.uint64pow10" .u64 Lib.pow10Tab
theorem Ze.below {w w':World}(h:Ze w)(a:Below w.heap.size w w'):Ze w':=by
 exact Lib.tabBelow_of_tabIs h w' a
def qf (n:Int):ByteArray:=⟨(Lib.itoa n).toArray⟩
theorem Z3 (n:Int)(a:-9223372036854775808<=n)(b:n<=9223372036854775807)(w:World)(h:Ze w) :
  Calls Tryz.prog 39 #[int i64 n] w fun e w'=>e=.returned (.string (qf n))/\Below w.heap.size w w' :=
 (Any.strconv_Itoa Tryz.lays171 n a b w h).mono fun e w' ⟨he,k,os,hw⟩=>⟨he,by subst hw;exact Lib.below_grow _ _ (Nat.le_refl _) _ _⟩
def qD (sep:ByteArray)(l:List ByteArray):ByteArray:=⟨(Lib.join (l.map (·.data.toList)) sep.data.toList).toArray⟩
def zcZ (w:World)(base:Nat)(v:Value)(l:List ByteArray):Prop:=w.ownsRow base 9 1 v l.length (l.map Value.string)
theorem zhL (sep:ByteArray)(l:List ByteArray)(v:Value)(base:Nat)(w:World)(h:zcZ w base v l)(hN:l.length<=1048576)(hl:(qD sep l).size<=140737488355328) :
  Calls Tryz.prog 16 #[v,.string sep] w fun e w'=>e=.returned (.string (qD sep l))/\Below w.heap.size w w':=by
 obtain⟨d,c,rfl,f,_⟩:=zt h
 by_cases h0:l.length=0
 ·have e:l=[]:=List.length_eq_zero_iff.1 h0
  subst e;exact(Any.strings_Join_none Tryz.lays156 Tryz.extra156 d c sep w).mono fun e w' ⟨he,hw⟩=>⟨he,by subst hw;exact bZ⟩
 ·obtain⟨g,rfl,_,i⟩:=qw h (by omega)
  refine Any.strings_Join Tryz.lays156 Tryz.extra156 g 0 c l sep w (fun j x b=>?_) i (by omega) f (by
   have e:(qD sep l).size=(Lib.join (l.map (·.data.toList)) sep.data.toList).length:=by show(Lib.join (l.map (·.data.toList)) sep.data.toList).toArray.size=_;simp
   rw[← e];exact hl)
  have hj:j<l.length:=by
   rcases Nat.lt_or_ge j l.length with a|a
   ·exact a
   ·rw[List.getElem?_eq_none a] at b;cases b
  rw[Nat.zero_add];rw[h.cellAt j (by omega),List.getElem?_map,b];rfl
end
theorem bs_push (a:List UInt8)(x:UInt8):(⟨a.toArray⟩:ByteArray)++ByteArray.empty.push x=⟨(a++[x]).toArray⟩:=by
 apply ByteArray.ext
 simp[ByteArray.data_append]
theorem conv_at (W:World)(b:Nat)(x:Int)(h:W.heap[b]?=some (.cells #[.int .u8 x] 5 (0,0))) :
  (convert 22 9 (.slice (some ⟨b,0,none⟩) 1 1)).run Tryz.prog W=.ok (.string (ByteArray.empty.push (UInt8.ofNat x.toNat))) W:=by
 rw[run_convert_bytes_string _ 22 9 5 _ 1 1 Tryz.underlying22 Tryz.underlying5 Tryz.underlying9];exact run_bytesToString _ _ 1 1 [x] (run_loadCells_list _ _ [.int .u8 x] (fun j v a=>by
  cases j with
  | zero=>simp at a;subst a;exact za h 0 _ rfl
  | succ j=>simp at a))
theorem dec_step {u:Nat}(h:¬ u<10):Lib.decDigits u=Lib.decDigits (u / 10)++[UInt8.ofNat (48+(u:Int) % 10).toNat]:=by
 rw[Lib.decDigits,dif_neg h]
 rfl
theorem zhM (u:Nat)(h:u<=9223372036854775807):(Lib.decDigits u).length<=100:=by
 rw[Lib.decDigits_length];have b:∀ k u,u<10 ^ (k+1)->Lib.nDigits u<=k+1:=by
  intro k
  induction k with
  | zero=>intro u a;rw[Lib.nDigits_small (by simpa using a)];omega
  | succ k ih =>
   intro u a
   by_cases c:u<10
   ·rw[Lib.nDigits_small c];omega
   ·rw[Lib.nDigits_big c]
    have:=ih (u / 10) (by rw[Nat.pow_succ] at a;omega)
    omega
 have:=b 18 u (by omega)
 omega
theorem l1Num_nat:∀ (u:Nat)(w:World),u<=9223372036854775807 ->
  Calls Tryz.prog 47 #[int i64 u] w fun e w'=>e=.returned (.string ⟨(Lib.decDigits u).toArray⟩)/\Below w.heap.size w w':=by
 intro u
 induction u using Nat.strongRecOn with
 | _ u ih =>
  intro w hu;have d0:decide ((u:Int)<0)=false:=decide_eq_false (by omega)
  by_cases h10:u<10
  ·have d1:decide ((u:Int)<10)=true:=decide_eq_true (by omega)
   have f:IntKind.i64.wrap (48+(u:Int))=48+(u:Int):=by rw[IntKind.wrap_i64];omega
   have g:IntKind.u8.wrap (48+(u:Int))=48+(u:Int):=by unfold IntKind.wrap;simp[IntKind.bits,IntKind.signed];omega
   have hc:=conv_at (w.alloc (.cells #[.int .u8 (48+(u:Int))] 5)) w.heap.size (48+(u:Int)) (heap_alloc_new _ _);have c:Below w.heap.size w (w.alloc (.cells #[.int .u8 (48+(u:Int))] 5)):=zr bZ _;go_enter Tryz.func47,Tryz.ntmps47;go_wp2;go_ret;refine⟨?_,c⟩;rw[Lib.decDigits_one h10]
   congr 3
  ·have d1:decide ((u:Int)<10)=false:=decide_eq_false (by omega)
   have f:IntKind.i64.wrap (48+(u:Int) % 10)=48+(u:Int) % 10:=by rw[IntKind.wrap_i64];omega
   have g:IntKind.u8.wrap (48+(u:Int) % 10)=48+(u:Int) % 10:=by unfold IntKind.wrap;simp[IntKind.bits,IntKind.signed];omega
   have hq:IntKind.i64.wrap ((u:Int) / 10)=(u:Int) / 10:=by rw[IntKind.wrap_i64];omega
   have q:(u:Int).tmod 10=(u:Int) % 10:=Int.tmod_eq_emod_of_nonneg (by omega)
   have j:Hid (∀ W:World,Calls Tryz.prog 47 #[int i64 ((u:Int) / 10)] W fun e w'=>e=.returned (.string ⟨(Lib.decDigits (u / 10)).toArray⟩)/\Below W.heap.size W w'):=fun W=>ih (u / 10) (by omega) W (by omega)
   have a:Hid (∀ W b,W.heap[b]?=some (.cells #[.int .u8 (48+(u:Int) % 10)] 5 (0,0))->(convert 22 9 (.slice (some ⟨b,0,none⟩) 1 1)).run Tryz.prog W=.ok (.string (ByteArray.empty.push (UInt8.ofNat (48+(u:Int) % 10).toNat))) W):=fun W b h=>conv_at W b _ h
   have p:=zhM (u / 10) (by omega)
   have i:∀ W:World,(Op.stringOp .add ⟨(Lib.decDigits (u / 10)).toArray⟩ (ByteArray.empty.push (UInt8.ofNat (48+(u:Int) % 10).toNat))).run Tryz.prog W=.ok (.string (⟨(Lib.decDigits (u / 10)).toArray⟩++ByteArray.empty.push (UInt8.ofNat (48+(u:Int) % 10).toNat))) W:=fun W=>run_string_add_sum W _ _ (by
    show(Lib.decDigits (u / 10)).toArray.size+1<=_
    rw[List.size_toArray];omega)
   clear ih;go_enter Tryz.func47,Tryz.ntmps47;go_upto_region 7 with fail;have k:=a.out (w.drew.alloc (.cells #[.int .u8 (48+(u:Int) % 10)] 5)) _ (heap_alloc_new _ _);have n:=a.out (w.alloc (.cells #[.int .u8 (48+(u:Int) % 10)] 5)).drew w.heap.size (heap_alloc_new w _);have l:=a.out (w.alloc (.cells #[.int .u8 (48+(u:Int) % 10)] 5)) _ (heap_alloc_new _ _);go_region_with (first
    | (go_at_call 47;(with_reducible refine Calls.mono (j.out _) ?_);rintro e w' ⟨rfl,c⟩;have m:=a.out (w'.alloc (.cells #[.int .u8 (48+(u:Int) % 10)] 5)) _ (heap_alloc_new _ _);have o:=a.out (w'.alloc (.cells #[.int .u8 (48+(u:Int) % 10)] 5)).drew w'.heap.size (heap_alloc_new w' _);(first | (have d:=a.out w' w.heap.size (zc (heap_alloc_new w.drew _) c)) | (have d:=a.out w' w.heap.size (zc (heap_alloc_new w _) c)) | skip)))
   all_goals
    go_wp2;go_ret;refine⟨?_,?_⟩
    ·refine Eq.trans (b:=.returned (.string (⟨(Lib.decDigits (u / 10)).toArray⟩++ByteArray.empty.push (UInt8.ofNat (48+(u:Int) % 10).toNat)))) rfl ?_
     rw[bs_push,dec_step h10]
    ·first|exact zj (zj bZ.drew c) (zr bZ _)|exact zj (zr bZ _).drew c|exact zj (zr bZ _) (c.drew)|(trace_state;sorry)
def qr (k:Nat):Bool:=decide (k=2∨k=3∨k=7)
def qM (k:Nat):Bool:=decide (4<=k/\k<=8)
def qx (k:Nat):Int:=if k=1∨k=2∨k=3∨k=5 then 3 else if k=9 then 1 else 0
def qp (k:Nat):Bool:=decide (k=1∨k=2∨k=3∨k=5)
def qs (k:Nat):Bool:=decide (k=2)
def Qg (k:Nat):Bool:=decide (k=6∨k=8)
def Zc (k:Nat):Bool:=decide (k=5∨k=6∨k=8)
def Qb (w:World):Prop:=∀ k,k<10 ->
 w.cell? ⟨0,k*7,none⟩=some (.bool (qr k))/\w.cell? ⟨0,k*7+1,none⟩=some (.bool (qM k))/\w.cell? ⟨0,k*7+2,none⟩=some (int i64 (qx k)) /\
 w.cell? ⟨0,k*7+3,none⟩=some (.bool (qp k))/\w.cell? ⟨0,k*7+4,none⟩=some (.bool (qs k))/\w.cell? ⟨0,k*7+5,none⟩=some (.bool (Qg k))/\w.cell? ⟨0,k*7+6,none⟩=some (.bool (Zc k))
theorem Qb.lt {w:World}(h:Qb w):0<w.heap.size:=World.block_lt_of_cell? w _ (h 0 (by decide)).1
theorem Qb.below {w w':World}(h:Qb w)(a:Below w.heap.size w w'):Qb w':=by
 intro k j;obtain⟨b,c,d,e,f,g,i⟩:=h k j;have hl:=h.lt;exact⟨(a.cell hl).trans b,(a.cell hl).trans c,(a.cell hl).trans d,(a.cell hl).trans e,(a.cell hl).trans f,(a.cell hl).trans g,(a.cell hl).trans i⟩
end Go.Proofs.YtfallpinmhbemaaGreatDoor

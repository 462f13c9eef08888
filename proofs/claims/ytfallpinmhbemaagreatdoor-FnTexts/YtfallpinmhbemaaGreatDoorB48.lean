import Derived.Test.YtfallpinmhbemaaGreatDoorB47
namespace Go.Proofs.YtfallpinmhbemaaGreatDoor
open Go.RowKit
open Go.Value (int)
open Go.IntKind (i64)
set_option maxHeartbeats 64000000
set_option maxRecDepth 1000000
def DrewOff (w:World)(f:Nat)(i:Option Addr)(n c:Nat)(e:Ending)(w':World):Prop :=
 (∃ (N:Nat) (S:Nat->Sail) (a g h:Option Addr) (m2 m3 d j k:Nat) (L C:Nat->Value),e=.returned (.agg #[.slice a N d,.slice g m2 j,.slice h m3 k])/\N<=7/\m3<=31/\OwnSails w' w.heap.size (.slice a N d) N S L C)/\CurIs w' f i n c 90000000100000/\zA w w' (fun b=>b=f)
theorem zdr {z u:World}{g k:Nat}(h:z.heap[g]?=u.heap[g]?):z.cell? ⟨g,k,none⟩=u.cell? ⟨g,k,none⟩:=by simp[World.cell?,h]
theorem own_ok {w:World}{base e size n c:Nat}{a:Option Addr}{j:List Value}(h:w.ownsRow base e size (.slice a n c) n j):SliceOk a n c:=by
 obtain⟨b,d,e,f,g,i⟩:=zt h
 cases e
 exact⟨f,g,i⟩
theorem zhI {N M:Nat}{S:Nat->Sail}(h:ShortAll N S 100)(hM:M<=N):ShortAll M S 1048576:=fun i hi=>by
 have g:=h i (by omega)
 exact⟨Nat.le_trans g.1 (by decide),Nat.le_trans g.2.1 (by decide),Nat.le_trans g.2.2.1 (by decide),Nat.le_trans g.2.2.2 (by decide)⟩
theorem zim (T:Nat)(Y:Option Addr)(n c a:Nat)(w:World)(ha:a<=1000000000)(hn:n<=1048576)(I:T<w.heap.size)(j0:Hid (CodeLow w Y n))(h:CurX w T Y n c a) :
  Calls Tryz.prog 30 #[.pointer (some ⟨T,0,none⟩)] w fun e w'=>DrewOff w T Y n c e w':=by
 have HL:=hI h.is.code_lt;have e6:Below w.heap.size w (w.alloc (.cells #[.slice none 0 0,.slice none 0 0,.slice none 0 0] 66)):=zr bZ _;have bR:=heap_alloc_new w (.cells #[.slice none 0 0,.slice none 0 0,.slice none 0 0] 66);have i8:(w.alloc (.cells #[.slice none 0 0,.slice none 0 0,.slice none 0 0] 66)).heap.size=w.heap.size+1:=by simp
 go_enter Tryz.func30,Tryz.ntmps30;go_wp2_with fail;generalize w.alloc (.cells #[.slice none 0 0,.slice none 0 0,.slice none 0 0] 66)=V at e6 bR i8 ⊢;have h2:Hid (CodeLow V Y n):=fun k hk b off e=>by have:=j0.out k hk b off e;omega
 refine(zff T Y n c a V ha hn (by omega) h2 (h.below e6)).mono ?_
 rintro e w1 ⟨v,N,S,L0,C0,rfl,⟨_,l7⟩,HT⟩;obtain⟨lo,lc,rfl,_,_,_⟩:=zt HT.out.lie.row;clear h h2;have e7:=HT.out.kept;have h9:=e7.blk bR (by omega)
 go_wp2_with fail;refine(zfT lo N lc S w1 (by omega) (zhI HT.out.short (Nat.le_refl _)) HT.out.lie.at).mono ?_
 rintro e w2 ⟨⟨J,O,R,P,Q,s,M,L,C,A,B,D,E,t,hM,rfl,hO⟩,d5⟩;have k4:=e7.size;have m6:=d5.size;have bN:=heap_alloc_new w2 (.cells #[.slice J M O,.slice R M P,.slice Q 0 s] 66);have d9:Below w2.heap.size w2 (w2.alloc (.cells #[.slice J M O,.slice R M P,.slice Q 0 s] 66)):=zr bZ _;have HF:Hid (zbu w (w2.alloc (.cells #[.slice J M O,.slice R M P,.slice Q 0 s] 66)) T Y n c 90000000000000 w2.heap.size (zef M S) J R Q O P s L C A B D E) :=
  ⟨(HT.out.cur.is.below d5).below d9,(((zA.of_below e6).trans e7).trans (zA.of_below d5)).trans (zA.of_below d9),by omega,zc (zc h9 d5) d9,bN,(hO.below d9).lower (by omega)⟩
 have h6:Hid (Off.Short (zef M S) 1048576):=zcD (by omega) (zhI HT.out.short hM)
 go_wp2_with fail;generalize w2.alloc (.cells #[.slice J M O,.slice R M P,.slice Q 0 s] 66)=u0 at HF ⊢;have g1:Hid (∃ (x:Off) (J R Q:Option Addr) (O P s:Nat) (L C A B D E:Nat->Value),x.san<=7/\x.bkn<=30/\Off.Short x 1048576/\Hid (zbu w u0 T Y n c (90000000000000) w2.heap.size x J R Q O P s L C A B D E)):=⟨zef M S,J,R,Q,O,P,s,L,C,A,B,D,E,by show M<=7;omega,Nat.zero_le _,h6.out,HF⟩
 clear HF h6 hO e6 d5 bR h9 e7 HT i8 k4 bN d9;generalize w2.heap.size=ob at g1 ⊢;obtain⟨x,J,R,Q,O,P,s,L,C,A,B,D,E,a5,f4,a7,HP⟩:=g1.out;clear g1;refine(pick_any T Y n c (90000000000000) 8 _ (by omega) (by omega) (by omega) HP.out.cur).mono ?_
 rintro e u1 ⟨⟨r8,rfl,m5⟩,H,p⟩;have g3:=hI (HP.out.on I H p);clear HP H p;go_wp2_with fail;refine(one_any T Y n c (90000000000000+2) 16 _ (by omega) (by omega) (by omega) g3.out.cur).mono ?_
 rintro e u2 ⟨⟨tb,rfl⟩,H,p⟩;have g4:=hI (g3.out.on I H p);clear g3 H p;go_upto_if 19 with fail;go_cut [5] (fun n5 wx=>∃ m:Nat,n5=int i64 (m:Int)/\m<=40/\Hid (zbu w wx T Y n c (90000000000000+4) ob x J R Q O P s L C A B D E))
 case first =>
  cases tb with
  | false =>
   go_wp2;go_meet;exact⟨r8,rfl,by omega,g4.out.more (by omega)⟩
  | true =>
   go_wp2;go_meet;exact⟨40,rfl,by omega,g4.out.more (by omega)⟩
 case rest =>
  obtain⟨m,rfl,l5,h5⟩:=hcut;clear g4;go_wp2;go_loopw [6,7,8,9] (fun kk _ _ _ wr=>∃ i:Nat,kk=int i64 (i:Int)/\1<=i/\i<=m+1/\∃ (x:Off) (J R Q:Option Addr) (O P s:Nat) (L C A B D E:Nat->Value),x.san<=7/\x.bkn<=30/\Off.Short x 1048576/\Hid (zbu w wr T Y n c (90000000000000+4+302*i) ob x J R Q O P s L C A B D E)) (fun kk _ _ _ _=>41 - (intOf kk).toNat)
  case atStart=>exact⟨1,rfl,by omega,by omega,x,J,R,Q,O,P,s,L,C,A,B,D,E,a5,f4,a7,h5.out.more (by omega)⟩
  case round =>
   clear h5 a5 f4 a7 J R Q O P s L C A B D E x;obtain⟨i,rfl,l8,l9,x,J,R,Q,O,P,s,L,C,A,B,D,E,a5,f4,a7,HP⟩:=hrel
   by_cases hi:i<=m
   ·have d1:decide ((i:Int)<=(m:Int))=true:=decide_eq_true (by omega)
    have i0:(i:Int)<=(m:Int):=by omega
    go_upto_region 8 with fail;go_cut [7,9] (fun s7 s9 wx=>∃ Z tb b1 b2 b3 m1 m2 m3 d1 d2 d3,s7=.pointer (some ⟨Z,0,none⟩)/\s9=.bool tb/\ob<Z/\Hid (wx.heap[Z]?=some (.cells #[.slice b1 m1 d1,.slice b2 m2 d2,.slice b3 m3 d3] 66 (0,0)))/\Hid (qv w.heap.size x.san b1 b2 b3 m1 m2 m3 d1 d2 d3 tb wx)/\Hid (zbu w wx T Y n c (90000000000000+4+302*i+300) ob x J R Q O P s L C A B D E))
    case first =>
     have g0:Hid (zbu w wr.drew T Y n c (90000000000000+4+302*i) ob x J R Q O P s L C A B D E):=HP.out.below bZ.drew;refine qy 15 15 (fun w'=>w'.cell? ⟨ob,0,none⟩=some (.slice J x.san O)/\w'.cell? ⟨ob,1,none⟩=some (.slice R x.ldn P)/\w'.cell? ⟨ob,2,none⟩=some (.slice Q x.bkn s)) rfl (by kernel_rfl) g0.out.s (fun l=>?_)
     clear HP;simp only[List.replicate_succ,List.replicate_zero];have f:Hid (R8 w wr.drew T Y n c (90000000000000+4+302*i) ob x J R Q O P s L C A B D E none none none none):=⟨g0.out,fun _ e=>(by cases e),fun _ e=>(by cases e),fun _ _ _ e=>(by cases e),fun _ e=>(by cases e)⟩
     clear g0;generalize wr.drew=u0 at f l ⊢
     (refine tkN 0 (v:=?_) rfl (by kernel_rfl) (fun _ _ _ h=>h) rfl (by assumption) ?_ ?_;rotate_left;(focus(intro w' h;(try dsimp only at h);go_simp;try with_reducible rfl));simp only[Act.put,sB,sZ,sS])
     (refine tkN 1 (v:=?_) rfl (by kernel_rfl) (fun _ _ _ h=>h) rfl (by assumption) ?_ ?_;rotate_left;(focus(intro w' h;(try dsimp only at h);go_simp;try with_reducible rfl));simp only[Act.put,sB,sZ,sS])
     (refine tkN 2 (v:=?_) rfl (by kernel_rfl) (fun _ _ _ h=>h) rfl (by assumption) ?_ ?_;rotate_left;(focus(intro w' h;(try dsimp only at h);go_simp;try with_reducible rfl));simp only[Act.put,sB,sZ,sS])
     (refine tkN 3 (v:=?_) rfl (by kernel_rfl) (fun _ _ _ h=>h) rfl (by assumption) ?_ ?_;rotate_left;(focus(intro w' h;(try dsimp only at h);go_simp;try with_reducible rfl));simp only[Act.put,sB,sZ,sS])
     refine zh (rs:=[4,10,11]) (by kernel_rfl) (by simp) ?_
     refine zd.consL rfl (fun K d=>?_) (zd.consL rfl (fun K d=>?_) (zd.consL rfl (fun K d=>?_) zd.nil))
     focus
      go_simp;go_at_call 29;refine Calls.mono (f.out.op I (by omega) (by omega) (by omega)) ?_
      rintro e u1 ⟨y,ag,cg,rfl,a9,b0,f⟩;dsimp only;refine d.out _ _ f.out.f.s (fun l=>?_)
      clear d K;simp only[sZ,sS];refine zh (rs:=[5,10,11]) (by kernel_rfl) (by simp) ?_
      refine zd.consL rfl (fun K d=>?_) (zd.consL rfl (fun K d=>?_) (zd.consL rfl (fun K d=>?_) zd.nil))
      focus
       go_simp;go_at_call 80;refine Calls.mono (f.out.dop a7 a9 b0 _) ?_;rintro e u2 ⟨q,rfl,f⟩;dsimp only;refine d.out _ _ f.out.f.s (fun l=>?_)
       clear d K;simp only[sZ,sS]
       (refine tkN 6 (v:=?_) rfl (by kernel_rfl) (fun _ _ _ h=>h) rfl (by assumption) ?_ ?_;rotate_left;(focus(intro w' h;(try dsimp only at h);go_simp;try with_reducible rfl));simp only[Act.put,sB,sZ,sS])
       (refine tkN 7 (v:=?_) rfl (by kernel_rfl) (fun _ _ _ h=>h) rfl (by assumption) ?_ ?_;rotate_left;(focus(intro w' h;(try dsimp only at h);go_simp;try with_reducible rfl));simp only[Act.put,sB,sZ,sS])
       (refine tkN 8 (v:=?_) rfl (by kernel_rfl) (fun _ _ _ h=>h) rfl (by assumption) ?_ ?_;rotate_left;(focus(intro w' h;(try dsimp only at h);go_simp;try with_reducible rfl));simp only[Act.put,sB,sZ,sS])
       (refine tkN 9 (v:=?_) rfl (by kernel_rfl) (fun _ _ _ h=>h) rfl (by assumption) ?_ ?_;rotate_left;(focus(intro w' h;(try dsimp only at h);go_simp;try with_reducible rfl));simp only[Act.put,sB,sZ,sS])
       refine zh (rs:=[10,11]) (by kernel_rfl) (by simp) ?_
       refine zd.consL rfl (fun K d=>?_) (zd.consL rfl (fun K d=>?_) zd.nil)
       focus
        go_simp;replace f:Hid _:=f.out.al7;refine d.out _ _ f.out.f.s (fun l=>?_)
        clear d K;simp only[sZ,sS];generalize u2.alloc (.cells #[.slice none 0 0,.slice none 0 0,.slice none 0 0] 66)=u3 at f l ⊢;generalize u2.heap.size=Z at f ⊢;refine zh (rs:=[11]) (by kernel_rfl) (by simp) ?_
        refine zd.consL rfl (fun K d=>?_) zd.nil
        focus
         go_simp;replace f:Hid _:=f.out.al8;refine d.out _ _ f.out.f.s (fun l=>?_)
         clear d K;simp only[sZ,sS];generalize u3.alloc (.cells #[int i64 0,int i64 0,int i64 0,.slice none 0 0] 127)=u4 at f l ⊢;generalize u3.heap.size=b8 at f ⊢
       rotate_left 1
       focus
        go_simp;replace f:Hid _:=f.out.al8;refine d.out _ _ f.out.f.s (fun l=>?_)
        clear d K;simp only[sZ,sS];generalize u2.alloc (.cells #[int i64 0,int i64 0,int i64 0,.slice none 0 0] 127)=u3 at f l ⊢;generalize u2.heap.size=b8 at f ⊢;refine zh (rs:=[10]) (by kernel_rfl) (by simp) ?_
        refine zd.consL rfl (fun K d=>?_) zd.nil
        focus
         go_simp;replace f:Hid _:=f.out.al7;refine d.out _ _ f.out.f.s (fun l=>?_)
         clear d K;simp only[sZ,sS];generalize u3.alloc (.cells #[.slice none 0 0,.slice none 0 0,.slice none 0 0] 66)=u4 at f l ⊢;generalize u3.heap.size=Z at f ⊢
      rotate_left 2
      focus
       go_simp;replace f:Hid _:=f.out.al7;refine d.out _ _ f.out.f.s (fun l=>?_)
       clear d K;simp only[sZ,sS];generalize u1.alloc (.cells #[.slice none 0 0,.slice none 0 0,.slice none 0 0] 66)=u2 at f l ⊢;generalize u1.heap.size=Z at f ⊢;refine zh (rs:=[5,11]) (by kernel_rfl) (by simp) ?_
       refine zd.consL rfl (fun K d=>?_) (zd.consL rfl (fun K d=>?_) zd.nil)
       focus
        go_simp;go_at_call 80;refine Calls.mono (f.out.dop a7 a9 b0 _) ?_;rintro e u3 ⟨q,rfl,f⟩;dsimp only;refine d.out _ _ f.out.f.s (fun l=>?_)
        clear d K;simp only[sZ,sS]
        (refine tkN 6 (v:=?_) rfl (by kernel_rfl) (fun _ _ _ h=>h) rfl (by assumption) ?_ ?_;rotate_left;(focus(intro w' h;(try dsimp only at h);go_simp;try with_reducible rfl));simp only[Act.put,sB,sZ,sS])
        (refine tkN 7 (v:=?_) rfl (by kernel_rfl) (fun _ _ _ h=>h) rfl (by assumption) ?_ ?_;rotate_left;(focus(intro w' h;(try dsimp only at h);go_simp;try with_reducible rfl));simp only[Act.put,sB,sZ,sS])
        (refine tkN 8 (v:=?_) rfl (by kernel_rfl) (fun _ _ _ h=>h) rfl (by assumption) ?_ ?_;rotate_left;(focus(intro w' h;(try dsimp only at h);go_simp;try with_reducible rfl));simp only[Act.put,sB,sZ,sS])
        (refine tkN 9 (v:=?_) rfl (by kernel_rfl) (fun _ _ _ h=>h) rfl (by assumption) ?_ ?_;rotate_left;(focus(intro w' h;(try dsimp only at h);go_simp;try with_reducible rfl));simp only[Act.put,sB,sZ,sS])
        refine zh (rs:=[11]) (by kernel_rfl) (by simp) ?_
        refine zd.consL rfl (fun K d=>?_) zd.nil
        focus
         go_simp;replace f:Hid _:=f.out.al8;refine d.out _ _ f.out.f.s (fun l=>?_)
         clear d K;simp only[sZ,sS];generalize u3.alloc (.cells #[int i64 0,int i64 0,int i64 0,.slice none 0 0] 127)=u4 at f l ⊢;generalize u3.heap.size=b8 at f ⊢
       rotate_left 1
       focus
        go_simp;replace f:Hid _:=f.out.al8;refine d.out _ _ f.out.f.s (fun l=>?_)
        clear d K;simp only[sZ,sS];generalize u2.alloc (.cells #[int i64 0,int i64 0,int i64 0,.slice none 0 0] 127)=u3 at f l ⊢;generalize u2.heap.size=b8 at f ⊢
      rotate_left 2
      focus
       go_simp;replace f:Hid _:=f.out.al8;refine d.out _ _ f.out.f.s (fun l=>?_)
       clear d K;simp only[sZ,sS];generalize u1.alloc (.cells #[int i64 0,int i64 0,int i64 0,.slice none 0 0] 127)=u2 at f l ⊢;generalize u1.heap.size=b8 at f ⊢;refine zh (rs:=[5,10]) (by kernel_rfl) (by simp) ?_
       refine zd.consL rfl (fun K d=>?_) (zd.consL rfl (fun K d=>?_) zd.nil)
       focus
        go_simp;go_at_call 80;refine Calls.mono (f.out.dop a7 a9 b0 _) ?_;rintro e u3 ⟨q,rfl,f⟩;dsimp only;refine d.out _ _ f.out.f.s (fun l=>?_)
        clear d K;simp only[sZ,sS]
        (refine tkN 6 (v:=?_) rfl (by kernel_rfl) (fun _ _ _ h=>h) rfl (by assumption) ?_ ?_;rotate_left;(focus(intro w' h;(try dsimp only at h);go_simp;try with_reducible rfl));simp only[Act.put,sB,sZ,sS])
        (refine tkN 7 (v:=?_) rfl (by kernel_rfl) (fun _ _ _ h=>h) rfl (by assumption) ?_ ?_;rotate_left;(focus(intro w' h;(try dsimp only at h);go_simp;try with_reducible rfl));simp only[Act.put,sB,sZ,sS])
        (refine tkN 8 (v:=?_) rfl (by kernel_rfl) (fun _ _ _ h=>h) rfl (by assumption) ?_ ?_;rotate_left;(focus(intro w' h;(try dsimp only at h);go_simp;try with_reducible rfl));simp only[Act.put,sB,sZ,sS])
        (refine tkN 9 (v:=?_) rfl (by kernel_rfl) (fun _ _ _ h=>h) rfl (by assumption) ?_ ?_;rotate_left;(focus(intro w' h;(try dsimp only at h);go_simp;try with_reducible rfl));simp only[Act.put,sB,sZ,sS])
        refine zh (rs:=[10]) (by kernel_rfl) (by simp) ?_
        refine zd.consL rfl (fun K d=>?_) zd.nil
        focus
         go_simp;replace f:Hid _:=f.out.al7;refine d.out _ _ f.out.f.s (fun l=>?_)
         clear d K;simp only[sZ,sS];generalize u3.alloc (.cells #[.slice none 0 0,.slice none 0 0,.slice none 0 0] 66)=u4 at f l ⊢;generalize u3.heap.size=Z at f ⊢
       rotate_left 1
       focus
        go_simp;replace f:Hid _:=f.out.al7;refine d.out _ _ f.out.f.s (fun l=>?_)
        clear d K;simp only[sZ,sS];generalize u2.alloc (.cells #[.slice none 0 0,.slice none 0 0,.slice none 0 0] 66)=u3 at f l ⊢;generalize u2.heap.size=Z at f ⊢
     rotate_left 6
     focus
      go_simp;replace f:Hid _:=f.out.al7;refine d.out _ _ f.out.f.s (fun l=>?_)
      clear d K;simp only[sZ,sS];generalize u0.alloc (.cells #[.slice none 0 0,.slice none 0 0,.slice none 0 0] 66)=u1 at f l ⊢;generalize u0.heap.size=Z at f ⊢;refine zh (rs:=[4,11]) (by kernel_rfl) (by simp) ?_
      refine zd.consL rfl (fun K d=>?_) (zd.consL rfl (fun K d=>?_) zd.nil)
      focus
       go_simp;go_at_call 29;refine Calls.mono (f.out.op I (by omega) (by omega) (by omega)) ?_
       rintro e u2 ⟨y,ag,cg,rfl,a9,b0,f⟩;dsimp only;refine d.out _ _ f.out.f.s (fun l=>?_)
       clear d K;simp only[sZ,sS];refine zh (rs:=[5,11]) (by kernel_rfl) (by simp) ?_
       refine zd.consL rfl (fun K d=>?_) (zd.consL rfl (fun K d=>?_) zd.nil)
       focus
        go_simp;go_at_call 80;refine Calls.mono (f.out.dop a7 a9 b0 _) ?_;rintro e u3 ⟨q,rfl,f⟩;dsimp only;refine d.out _ _ f.out.f.s (fun l=>?_)
        clear d K;simp only[sZ,sS]
        (refine tkN 6 (v:=?_) rfl (by kernel_rfl) (fun _ _ _ h=>h) rfl (by assumption) ?_ ?_;rotate_left;(focus(intro w' h;(try dsimp only at h);go_simp;try with_reducible rfl));simp only[Act.put,sB,sZ,sS])
        (refine tkN 7 (v:=?_) rfl (by kernel_rfl) (fun _ _ _ h=>h) rfl (by assumption) ?_ ?_;rotate_left;(focus(intro w' h;(try dsimp only at h);go_simp;try with_reducible rfl));simp only[Act.put,sB,sZ,sS])
        (refine tkN 8 (v:=?_) rfl (by kernel_rfl) (fun _ _ _ h=>h) rfl (by assumption) ?_ ?_;rotate_left;(focus(intro w' h;(try dsimp only at h);go_simp;try with_reducible rfl));simp only[Act.put,sB,sZ,sS])
        (refine tkN 9 (v:=?_) rfl (by kernel_rfl) (fun _ _ _ h=>h) rfl (by assumption) ?_ ?_;rotate_left;(focus(intro w' h;(try dsimp only at h);go_simp;try with_reducible rfl));simp only[Act.put,sB,sZ,sS])
        refine zh (rs:=[11]) (by kernel_rfl) (by simp) ?_
        refine zd.consL rfl (fun K d=>?_) zd.nil
        focus
         go_simp;replace f:Hid _:=f.out.al8;refine d.out _ _ f.out.f.s (fun l=>?_)
         clear d K;simp only[sZ,sS];generalize u3.alloc (.cells #[int i64 0,int i64 0,int i64 0,.slice none 0 0] 127)=u4 at f l ⊢;generalize u3.heap.size=b8 at f ⊢
       rotate_left 1
       focus
        go_simp;replace f:Hid _:=f.out.al8;refine d.out _ _ f.out.f.s (fun l=>?_)
        clear d K;simp only[sZ,sS];generalize u2.alloc (.cells #[int i64 0,int i64 0,int i64 0,.slice none 0 0] 127)=u3 at f l ⊢;generalize u2.heap.size=b8 at f ⊢
      rotate_left 2
      focus
       go_simp;replace f:Hid _:=f.out.al8;refine d.out _ _ f.out.f.s (fun l=>?_)
       clear d K;simp only[sZ,sS];generalize u1.alloc (.cells #[int i64 0,int i64 0,int i64 0,.slice none 0 0] 127)=u2 at f l ⊢;generalize u1.heap.size=b8 at f ⊢;refine zh (rs:=[4]) (by kernel_rfl) (by simp) ?_
       refine zd.consL rfl (fun K d=>?_) zd.nil
       focus
        go_simp;go_at_call 29;refine Calls.mono (f.out.op I (by omega) (by omega) (by omega)) ?_
        rintro e u3 ⟨y,ag,cg,rfl,a9,b0,f⟩;dsimp only;refine d.out _ _ f.out.f.s (fun l=>?_)
        clear d K;simp only[sZ,sS]
     rotate_left 3
     focus
      go_simp;replace f:Hid _:=f.out.al8;refine d.out _ _ f.out.f.s (fun l=>?_)
      clear d K;simp only[sZ,sS];generalize u0.alloc (.cells #[int i64 0,int i64 0,int i64 0,.slice none 0 0] 127)=u1 at f l ⊢;generalize u0.heap.size=b8 at f ⊢;refine zh (rs:=[4,10]) (by kernel_rfl) (by simp) ?_
      refine zd.consL rfl (fun K d=>?_) (zd.consL rfl (fun K d=>?_) zd.nil)
      focus
       go_simp;go_at_call 29;refine Calls.mono (f.out.op I (by omega) (by omega) (by omega)) ?_
       rintro e u2 ⟨y,ag,cg,rfl,a9,b0,f⟩;dsimp only;refine d.out _ _ f.out.f.s (fun l=>?_)
       clear d K;simp only[sZ,sS];refine zh (rs:=[5,10]) (by kernel_rfl) (by simp) ?_
       refine zd.consL rfl (fun K d=>?_) (zd.consL rfl (fun K d=>?_) zd.nil)
       focus
        go_simp;go_at_call 80;refine Calls.mono (f.out.dop a7 a9 b0 _) ?_;rintro e u3 ⟨q,rfl,f⟩;dsimp only;refine d.out _ _ f.out.f.s (fun l=>?_)
        clear d K;simp only[sZ,sS]
        (refine tkN 6 (v:=?_) rfl (by kernel_rfl) (fun _ _ _ h=>h) rfl (by assumption) ?_ ?_;rotate_left;(focus(intro w' h;(try dsimp only at h);go_simp;try with_reducible rfl));simp only[Act.put,sB,sZ,sS])
        (refine tkN 7 (v:=?_) rfl (by kernel_rfl) (fun _ _ _ h=>h) rfl (by assumption) ?_ ?_;rotate_left;(focus(intro w' h;(try dsimp only at h);go_simp;try with_reducible rfl));simp only[Act.put,sB,sZ,sS])
        (refine tkN 8 (v:=?_) rfl (by kernel_rfl) (fun _ _ _ h=>h) rfl (by assumption) ?_ ?_;rotate_left;(focus(intro w' h;(try dsimp only at h);go_simp;try with_reducible rfl));simp only[Act.put,sB,sZ,sS])
        (refine tkN 9 (v:=?_) rfl (by kernel_rfl) (fun _ _ _ h=>h) rfl (by assumption) ?_ ?_;rotate_left;(focus(intro w' h;(try dsimp only at h);go_simp;try with_reducible rfl));simp only[Act.put,sB,sZ,sS])
        refine zh (rs:=[10]) (by kernel_rfl) (by simp) ?_
        refine zd.consL rfl (fun K d=>?_) zd.nil
        focus
         go_simp;replace f:Hid _:=f.out.al7;refine d.out _ _ f.out.f.s (fun l=>?_)
         clear d K;simp only[sZ,sS];generalize u3.alloc (.cells #[.slice none 0 0,.slice none 0 0,.slice none 0 0] 66)=u4 at f l ⊢;generalize u3.heap.size=Z at f ⊢
       rotate_left 1
       focus
        go_simp;replace f:Hid _:=f.out.al7;refine d.out _ _ f.out.f.s (fun l=>?_)
        clear d K;simp only[sZ,sS];generalize u2.alloc (.cells #[.slice none 0 0,.slice none 0 0,.slice none 0 0] 66)=u3 at f l ⊢;generalize u2.heap.size=Z at f ⊢
      rotate_left 2
      focus
       go_simp;replace f:Hid _:=f.out.al7;refine d.out _ _ f.out.f.s (fun l=>?_)
       clear d K;simp only[sZ,sS];generalize u1.alloc (.cells #[.slice none 0 0,.slice none 0 0,.slice none 0 0] 66)=u2 at f l ⊢;generalize u1.heap.size=Z at f ⊢;refine zh (rs:=[4]) (by kernel_rfl) (by simp) ?_
       refine zd.consL rfl (fun K d=>?_) zd.nil
       focus
        go_simp;go_at_call 29;refine Calls.mono (f.out.op I (by omega) (by omega) (by omega)) ?_
        rintro e u3 ⟨y,ag,cg,rfl,a9,b0,f⟩;dsimp only;refine d.out _ _ f.out.f.s (fun l=>?_)
        clear d K;simp only[sZ,sS]
     all_goals
      try
       refine zh (rs:=[5]) (by kernel_rfl) (by simp) ?_
       refine zd.consL rfl (fun K d=>?_) zd.nil
       go_simp;go_at_call 80;refine Calls.mono (f.out.dop a7 a9 b0 _) ?_;rintro e u4 ⟨q,rfl,f⟩;dsimp only;refine d.out _ _ f.out.f.s (fun l=>?_)
       clear d K;simp only[sZ,sS]
       (refine tkN 6 (v:=?_) rfl (by kernel_rfl) (fun _ _ _ h=>h) rfl (by assumption) ?_ ?_;rotate_left;(focus(intro w' h;(try dsimp only at h);go_simp;try with_reducible rfl));simp only[Act.put,sB,sZ,sS])
       (refine tkN 7 (v:=?_) rfl (by kernel_rfl) (fun _ _ _ h=>h) rfl (by assumption) ?_ ?_;rotate_left;(focus(intro w' h;(try dsimp only at h);go_simp;try with_reducible rfl));simp only[Act.put,sB,sZ,sS])
       (refine tkN 8 (v:=?_) rfl (by kernel_rfl) (fun _ _ _ h=>h) rfl (by assumption) ?_ ?_;rotate_left;(focus(intro w' h;(try dsimp only at h);go_simp;try with_reducible rfl));simp only[Act.put,sB,sZ,sS])
       (refine tkN 9 (v:=?_) rfl (by kernel_rfl) (fun _ _ _ h=>h) rfl (by assumption) ?_ ?_;rotate_left;(focus(intro w' h;(try dsimp only at h);go_simp;try with_reducible rfl));simp only[Act.put,sB,sZ,sS])
     all_goals
      obtain⟨i9,h7⟩:=f.out.h7 Z rfl;obtain⟨k6,h8⟩:=f.out.h8 b8 rfl;have h4:Hid (q.Ok w.heap.size x.san u4):=f.out.hn q rfl;have h3:=hI f.out.f;have b6:=hI h7;have f7:=hI h8;clear h7 h8 f;have i7:Z≠b8:=fun e=>by have h7:=b6.out;rw[e,f7.out] at h7;simp at h7
      obtain⟨q0,q1,q2⟩:=ce3 b6.out;obtain⟨g7,g8,g9⟩:=fe3 b6.out;have e8:zA u4 (((u4.setCell ⟨Z,0,none⟩ (.slice q.b1 q.m1 q.d1)).setCell ⟨Z,1,none⟩ (.slice q.b2 q.m2 q.d2)).setCell ⟨Z,2,none⟩ (.slice q.b3 q.m3 q.d3)) (fun b=>b=Z):=((((zA.refl u4 (fun b=>b=Z)).set (a:=⟨Z,0,none⟩) rfl (.slice q.b1 q.m1 q.d1)).set (a:=⟨Z,1,none⟩) rfl (.slice q.b2 q.m2 q.d2)).set (a:=⟨Z,2,none⟩) rfl (.slice q.b3 q.m3 q.d3))
      have HG:Hid _:=h3.out.other I HL.out e8 b6.out (by decide) i9
      have c8:Hid (q.Ok w.heap.size x.san (((u4.setCell ⟨Z,0,none⟩ (.slice q.b1 q.m1 q.d1)).setCell ⟨Z,1,none⟩ (.slice q.b2 q.m2 q.d2)).setCell ⟨Z,2,none⟩ (.slice q.b3 q.m3 q.d3))):=qv.box h4.out e8 b6.out (by decide)
      have f9:Hid _:=zfS b6.out (.slice q.b1 q.m1 q.d1) (.slice q.b2 q.m2 q.d2) (.slice q.b3 q.m3 q.d3);have c0:Hid _:=e8.blk f7.out (show ¬ b8=Z from fun e=>i7 e.symm)
      refine zh (rs:=[12]) (by kernel_rfl) (by simp) ?_
      refine zd.consL rfl (fun K d=>?_) zd.nil
      go_simp;refine d.out _ _ HG.out.s (fun l=>?_)
      clear d K h3 e8 h4 b6 f7 q0 q1 q2 g7 g8 g9;simp only[sZ,sS];generalize (((u4.setCell ⟨Z,0,none⟩ (.slice q.b1 q.m1 q.d1)).setCell ⟨Z,1,none⟩ (.slice q.b2 q.m2 q.d2)).setCell ⟨Z,2,none⟩ (.slice q.b3 q.m3 q.d3))=v7 at HG c8 f9 c0 l ⊢;obtain⟨q0,q1,q2,q3⟩:=ce4 c0.out;obtain⟨g7,g8,g9,k7⟩:=fe4 c0.out;have e9:zA v7 ((((v7.setCell ⟨b8,0,none⟩ (int i64 q.k1)).setCell ⟨b8,1,none⟩ (int i64 q.k2)).setCell ⟨b8,2,none⟩ (int i64 q.k3)).setCell ⟨b8,3,none⟩ (.slice q.b4 q.m4 q.d4)) (fun b=>b=b8):=(((((zA.refl v7 (fun b=>b=b8)).set (a:=⟨b8,0,none⟩) rfl (int i64 q.k1)).set (a:=⟨b8,1,none⟩) rfl (int i64 q.k2)).set (a:=⟨b8,2,none⟩) rfl (int i64 q.k3)).set (a:=⟨b8,3,none⟩) rfl (.slice q.b4 q.m4 q.d4))
      have HH:Hid _:=HG.out.other I HL.out e9 c0.out (by decide) k6
      have f5:Hid (q.Ok w.heap.size x.san ((((v7.setCell ⟨b8,0,none⟩ (int i64 q.k1)).setCell ⟨b8,1,none⟩ (int i64 q.k2)).setCell ⟨b8,2,none⟩ (int i64 q.k3)).setCell ⟨b8,3,none⟩ (.slice q.b4 q.m4 q.d4))):=qv.box c8.out e9 c0.out (by decide)
      have h1:Hid _:=e9.blk f9.out i7;refine zh (rs:=[13]) (by kernel_rfl) (by simp) ?_
      refine zd.consL rfl (fun K d=>?_) zd.nil
      go_simp;refine d.out _ _ HH.out.s (fun l=>?_)
      clear d K HG e9 c8 f9 c0 q0 q1 q2 q3 g7 g8 g9 k7;simp only[sZ,sS];generalize ((((v7.setCell ⟨b8,0,none⟩ (int i64 q.k1)).setCell ⟨b8,1,none⟩ (int i64 q.k2)).setCell ⟨b8,2,none⟩ (int i64 q.k3)).setCell ⟨b8,3,none⟩ (.slice q.b4 q.m4 q.d4))=v8 at HH f5 h1 l ⊢;refine zh (rs:=[14]) (by kernel_rfl) (by simp) ?_
      refine zd.consL rfl (fun K d=>?_) zd.nil
      go_simp;refine d.out _ _ HH.out.s (fun l=>?_)
      clear d K;simp only[sZ,sS];refine zH (by kernel_rfl) ?_ _
      go_wp2;go_meet;exact⟨Z,q.tb,q.b1,q.b2,q.b3,q.m1,q.m2,q.m3,q.d1,q.d2,q.d3,rfl,rfl,i9,h1,f5,HH⟩
    case rest =>
     obtain⟨Z,tb,b1,b2,b3,m1,m2,m3,d1,d2,d3,rfl,rfl,l4,HC,HN,U⟩:=hcut;clear HP;have m7:IntKind.i64.wrap ((i:Int)+1)=((i+1:Nat):Int):=by rw[IntKind.wrap_i64];omega
     cases tb with
     | false =>
      go_wp2;go_roundw
      case rel=>exact⟨i+1,rfl,by omega,by omega,x,J,R,Q,O,P,s,L,C,A,B,D,E,a5,f4,a7,U.out.more (by omega)⟩
      case measure=>simp[intOf];omega
     | true =>
      rcases HN.out with h|⟨x2,L2,C2,A2,B2,D2,E2,rfl,rfl,rfl,e1,e2,e3,i1⟩
      ·cases h
      ·have j2:Hid _:=i1
       have j1:=hI e1;clear i1 HN e1;obtain⟨q0,q1,q2⟩:=ce3 HC.out;obtain⟨r0,r1,r2⟩:=ce3 U.out.box;obtain⟨f0,f1,f2⟩:=fe3 U.out.box;go_wp2;go_roundw
       case rel=>exact⟨i+1,rfl,by omega,by omega,x2,b1,b2,b3,d1,d2,d3,L2,C2,A2,B2,D2,E2,(by have:=j1.out;omega),e2,e3,(U.out.to I HL.out j2.out).more (by omega)⟩
       case measure=>simp[intOf];omega
   ·have d1:decide ((i:Int)<=(m:Int))=false:=decide_eq_false (by omega)
    have i0:¬ (i:Int)<=(m:Int):=by omega
    have g5:Hid (zbu w wr T Y n c (90000000012998) ob x J R Q O P s L C A B D E):=HP.out.more (by omega)
    clear HP;go_wp2_with fail;refine(pick_any T Y n c (90000000012998) 40 _ (by omega) (by omega) (by omega) g5.out.cur).mono ?_
    rintro e u3 ⟨⟨r,rfl,hr⟩,H,p⟩;have U:=hI (g5.out.on I H p);clear g5 H p d1 i0;go_upto_block 2 with fail;go_cut [] (fun wx=>∃ (N:Nat) (S:Nat->Sail) (J R Q:Option Addr) (m2 m3 O P s:Nat) (L C:Nat->Value),N<=7/\m3<=31/\Hid (zbv w wx T Y n c (90000000020000) ob N S J R Q m2 m3 O P s L C))
    case first =>
     by_cases e0:r=0
     ·subst e0
      obtain⟨r0,ri,k8,k9,l0⟩:=info_parts Tryz.infoBookingO;have m8:IntKind.i64.wrap ((x.bkn:Int)+1)=(x.bkn:Int)+1:=by rw[IntKind.wrap_i64];omega
      go_upto_region 13 with fail;have G:Hid (zbv w u3.drew T Y n c (90000000013000) ob x.san x.sa J R Q x.ldn x.bkn O P s L C):=U.out.weak.below bZ.drew;have W:Hid (u3.drew.ownsRow w.heap.size 131 13 (.slice Q x.bkn s) x.bkn (Qp x.bk E x.bkn)):=(U.out.own.below bZ.drew).bk.row;refine qy 19 20 (fun w'=>w'.cell? ⟨ob,0,none⟩=some (.slice J x.san O)/\w'.cell? ⟨ob,1,none⟩=some (.slice R x.ldn P)/\w'.cell? ⟨ob,2,none⟩=some (.slice Q x.bkn s)) rfl (by kernel_rfl) G.out.s (fun l=>?_)
      clear U;simp only[List.replicate_succ,List.replicate_zero];generalize u3.drew=y0 at G W l ⊢
      (refine tkL 0 (v:=?_) rfl (by kernel_rfl) (fun _ _ _ h=>h) rfl (by assumption) ?_ ?_;rotate_left;(focus(intro w' h;(try dsimp only at h);go_simp;try with_reducible rfl));simp only[Act.put,sB,sZ,sS])
      (refine tkL 1 (v:=?_) rfl (by kernel_rfl) (fun _ _ _ h=>h) rfl (by assumption) ?_ ?_;rotate_left;(focus(intro w' h;(try dsimp only at h);go_simp;try with_reducible rfl));simp only[Act.put,sB,sZ,sS])
      (refine tkL 2 (v:=?_) rfl (by kernel_rfl) (fun _ _ _ h=>h) rfl (by assumption) ?_ ?_;rotate_left;(focus(intro w' h;(try dsimp only at h);go_simp;try with_reducible rfl));simp only[Act.put,sB,sZ,sS])
      (refine tkL 3 (v:=?_) rfl (by kernel_rfl) (fun _ _ _ h=>h) rfl (by assumption) ?_ ?_;rotate_left;(focus(intro w' h;(try dsimp only at h);go_simp;try with_reducible rfl));simp only[Act.put,sB,sZ,sS])
      (refine tkL 4 (v:=?_) rfl (by kernel_rfl) (fun _ _ _ h=>h) rfl (by assumption) ?_ ?_;rotate_left;(focus(intro w' h;(try dsimp only at h);go_simp;try with_reducible rfl));simp only[Act.put,sB,sZ,sS])
      (refine tkL 5 (v:=?_) rfl (by kernel_rfl) (fun _ _ _ h=>h) rfl (by assumption) ?_ ?_;rotate_left;(focus(intro w' h;(try dsimp only at h);go_simp;try with_reducible rfl));simp only[Act.put,sB,sZ,sS])
      (refine tkL 6 (v:=?_) rfl (by kernel_rfl) (fun _ _ _ h=>h) rfl (by assumption) ?_ ?_;rotate_left;(focus(intro w' h;(try dsimp only at h);go_simp;try with_reducible rfl));simp only[Act.put,sB,sZ,sS])
      (refine tkL 7 (v:=?_) rfl (by kernel_rfl) (fun _ _ _ h=>h) rfl (by assumption) ?_ ?_;rotate_left;(focus(intro w' h;(try dsimp only at h);go_simp;try with_reducible rfl));simp only[Act.put,sB,sZ,sS])
      (refine tkL 8 (v:=?_) rfl (by kernel_rfl) (fun _ _ _ h=>h) rfl (by assumption) ?_ ?_;rotate_left;(focus(intro w' h;(try dsimp only at h);go_simp;try with_reducible rfl));simp only[Act.put,sB,sZ,sS])
      (refine tkL 10 (v:=?_) rfl (by kernel_rfl) (fun _ _ _ h=>h) rfl (by assumption) ?_ ?_;rotate_left;(focus(intro w' h;(try dsimp only at h);go_simp;try with_reducible rfl));simp only[Act.put,sB,sZ,sS])
      (refine tkL 12 (v:=?_) rfl (by kernel_rfl) (fun _ _ _ h=>h) rfl (by assumption) ?_ ?_;rotate_left;(focus(intro w' h;(try dsimp only at h);go_simp;try with_reducible rfl));simp only[Act.put,sB,sZ,sS])
      refine zh (rs:=[9]) (by kernel_rfl) (by simp) ?_
      refine zd.consL rfl (fun K d=>?_) zd.nil
      go_simp;go_at_call 74;refine Calls.mono (zej T Y n c (90000000013000) J x.san O x.sa y0 (by omega) (by omega) G.out.cur G.out.sails ) ?_
      rintro e y1 ⟨⟨v,k,F,m0,rfl,ho⟩,H,p⟩;dsimp only;obtain⟨av,cv,rfl,_,_,_⟩:=zt ho;have X:=hI (G.out.on I H p);replace W:Hid (y1.ownsRow w.heap.size 131 13 (.slice Q x.bkn s) x.bkn (Qp x.bk E x.bkn)):=p.own W.out (fun g hg e=>by have e:g=T:=e;have:=(W.out.lt g hg).1;omega)
      refine d.out _ _ X.out.s (fun l=>?_)
      clear d K G H p ho;simp only[sZ,sS];refine zh (rs:=[11]) (by kernel_rfl) (by simp) ?_
      refine zd.consL rfl (fun K d=>?_) zd.nil
      go_simp;go_at_call 75;refine Calls.mono (zfD T Y n c (90000000013000+60) y1 (by omega) X.out.cur ) ?_
      rintro e y2 ⟨⟨x0,x1,x2,x3,x4,x5,rfl⟩,H,p⟩;dsimp only;have a0:=hI (X.out.on I H p);replace W:Hid (y2.ownsRow w.heap.size 131 13 (.slice Q x.bkn s) x.bkn (Qp x.bk E x.bkn)):=p.own W.out (fun g hg e=>by have e:g=T:=e;have:=(W.out.lt g hg).1;omega)
      refine d.out _ _ a0.out.s (fun l=>?_)
      clear d K X H p;simp only[sZ,sS];refine zh (rs:=[13]) (by kernel_rfl) (by simp) ?_
      refine zd.consL rfl (fun K d=>?_) zd.nil
      go_simp;go_at_call 59;refine Calls.mono (pick_any T Y n c (90000000013000+60+40) 5 y2 (by omega) (by omega) (by omega) a0.out.cur ) ?_
      rintro e y3 ⟨⟨q,rfl,hq⟩,H,p⟩;dsimp only;have g6:=hI (a0.out.on I H p);replace W:Hid (y3.ownsRow w.heap.size 131 13 (.slice Q x.bkn s) x.bkn (Qp x.bk E x.bkn)):=p.own W.out (fun g hg e=>by have e:g=T:=e;have:=(W.out.lt g hg).1;omega)
      have m9:IntKind.i64.wrap (1+(q:Int))=1+(q:Int):=by rw[IntKind.wrap_i64];omega
      refine d.out _ _ g6.out.s (fun l=>?_)
      clear d K a0 H p;simp only[sZ,sS]
      (refine tkL 14 (v:=?_) rfl (by kernel_rfl) (fun _ _ _ h=>h) rfl (by assumption) ?_ ?_;rotate_left;(focus(intro w' h;(try dsimp only at h);go_simp;try with_reducible rfl));simp only[Act.put,sB,sZ,sS])
      (refine tkL 15 (v:=?_) rfl (by kernel_rfl) (fun _ _ _ h=>h) rfl (by assumption) ?_ ?_;rotate_left;(focus(intro w' h;(try dsimp only at h);go_simp;try with_reducible rfl));simp only[Act.put,sB,sZ,sS])
      refine zh (rs:=[16]) (by kernel_rfl) (by simp) ?_
      refine zd.consL rfl (fun K d=>?_) zd.nil
      refine Q1 (by rfl) 64 131 1 #[(0,.tmp 56)] (by rfl) Tryz.underlying64 #[int i64 ((x.bkn:Int)+1),int i64 500,.string ⟨#[65,110,110]⟩,.slice av k cv,int i64 x0,int i64 x1,int i64 x2,int i64 x3,.bool x4,int i64 x5,int i64 (1+(q:Int)),int i64 0,int i64 0] (Eq.trans (congrArg (Program.builtSlice Tryz.prog 131 1) (show _=[(0,Value.agg #[int i64 ((x.bkn:Int)+1),int i64 500,.string ⟨#[65,110,110]⟩,.slice av k cv,int i64 x0,int i64 x1,int i64 x2,int i64 x3,.bool x4,int i64 x5,int i64 (1+(q:Int)),int i64 0,int i64 0])] from by first|(simp[go_sem];done)|rfl|kernel_rfl)) (zbJ ((x.bkn:Int)+1) 500 x0 x1 x2 x3 x5 (1+(q:Int)) 0 0 ⟨#[65,110,110]⟩ x4 av k cv)) ?_
      have c9:Hid (zbv w (y3.alloc (.cells #[int i64 ((x.bkn:Int)+1),int i64 500,.string ⟨#[65,110,110]⟩,.slice av k cv,int i64 x0,int i64 x1,int i64 x2,int i64 x3,.bool x4,int i64 x5,int i64 (1+(q:Int)),int i64 0,int i64 0] 131)) T Y n c (90000000013000+60+40+2) ob x.san x.sa J R Q x.ldn x.bkn O P s L C):=g6.out.below (zr bZ _);replace W:Hid ((y3.alloc (.cells #[int i64 ((x.bkn:Int)+1),int i64 500,.string ⟨#[65,110,110]⟩,.slice av k cv,int i64 x0,int i64 x1,int i64 x2,int i64 x3,.bool x4,int i64 x5,int i64 (1+(q:Int)),int i64 0,int i64 0] 131)).ownsRow w.heap.size 131 13 (.slice Q x.bkn s) x.bkn (Qp x.bk E x.bkn)):=zm (zr bZ _) W.out;have b9:Hid (∀ j u,[int i64 ((x.bkn:Int)+1),int i64 500,.string ⟨#[65,110,110]⟩,.slice av k cv,int i64 x0,int i64 x1,int i64 x2,int i64 x3,.bool x4,int i64 x5,int i64 (1+(q:Int)),int i64 0,int i64 0][j]?=some u->(y3.alloc (.cells #[int i64 ((x.bkn:Int)+1),int i64 500,.string ⟨#[65,110,110]⟩,.slice av k cv,int i64 x0,int i64 x1,int i64 x2,int i64 x3,.bool x4,int i64 x5,int i64 (1+(q:Int)),int i64 0,int i64 0] 131)).cell? ((⟨y3.heap.size,0,none⟩:Addr).add j)=some u):=World.news_of_block (cs:=#[int i64 ((x.bkn:Int)+1),int i64 500,.string ⟨#[65,110,110]⟩,.slice av k cv,int i64 x0,int i64 x1,int i64 x2,int i64 x3,.bool x4,int i64 x5,int i64 (1+(q:Int)),int i64 0,int i64 0]) (t:=131) (fr:=(0,0)) (heap_alloc_new y3 _);refine d.out _ _ c9.out.s (fun l=>?_)
      clear d K g6;simp only[Act.put,sB,sZ,sS];generalize y3.alloc (.cells #[int i64 ((x.bkn:Int)+1),int i64 500,.string ⟨#[65,110,110]⟩,.slice av k cv,int i64 x0,int i64 x1,int i64 x2,int i64 x3,.bool x4,int i64 x5,int i64 (1+(q:Int)),int i64 0,int i64 0] 131)=y4 at c9 W b9 l ⊢;refine zh (rs:=[17]) (by kernel_rfl) (by simp) ?_
      refine zd.consL rfl (fun K d=>?_) zd.nil
      refine step_append_lies _ (by rfl) (.tmp 42) (.tmp 57) 64 (by rfl) w.heap.size 131 r0 (.agg #[int i64 0,int i64 0,.string ⟨#[]⟩,.slice none 0 0,int i64 0,int i64 0,int i64 0,int i64 0,.bool false,int i64 0,int i64 0,int i64 0,int i64 0]) 13 128 Tryz.underlying64 ri k8 k9 l0 rfl (by decide) _ x.bkn (Qp x.bk E x.bkn) (by rfl) W.out ⟨y3.heap.size,0,none⟩ 1 1 [int i64 ((x.bkn:Int)+1),int i64 500,.string ⟨#[65,110,110]⟩,.slice av k cv,int i64 x0,int i64 x1,int i64 x2,int i64 x3,.bool x4,int i64 x5,int i64 (1+(q:Int)),int i64 0,int i64 0] (by rfl) (by rfl) b9.out (by intro u hu;simp at hu;rcases hu with rfl|rfl|rfl|rfl|rfl|rfl|rfl|rfl|rfl|rfl|rfl|rfl|rfl <;> rfl) (by decide) (by unfold maxLen;omega) (by omega) c9.out.kept.size _ rfl ?_
      intro g2 f6 y5 j9 i4 i3 i6;have e5:Hid (zbv w y5 T Y n c (90000000013000+60+40+2) ob x.san x.sa J R Q x.ldn x.bkn O P s L C):=c9.out.far I HL.out (zO i4) (fun b e=>⟨(W.out.lt b e).1,by obtain⟨cs,e2⟩:=zT W.out b e;exact⟨cs,_,e2,by decide,by decide,by decide,by decide⟩⟩)
      refine d.out _ _ e5.out.s (fun l=>?_)
      clear d K c9 W b9 j9 i4 i3 i6;simp only[Act.put,sB,sZ,sS]
      (refine tkL 18 (v:=?_) rfl (by kernel_rfl) (fun _ _ _ h=>h) rfl (by assumption) ?_ ?_;rotate_left;(focus(intro w' h;(try dsimp only at h);go_simp;try with_reducible rfl));simp only[Act.put,sB,sZ,sS])
      have z2:=za e5.out.box 2 _ rfl;have h0:=zg e5.out.box 2;refine zh (rs:=[19]) (by kernel_rfl) (by simp) ?_
      refine zd.lastL rfl (fun K d=>?_)
      go_simp;refine d.out _ _ ?_;clear d K;refine zH (by kernel_rfl) ?_ _
      go_wp2;go_meet;exact⟨x.san,x.sa,J,R,some ⟨g2,0,none⟩,x.ldn,x.bkn+1,O,P,f6,L,C,a5,by omega,(e5.out.put2 I HL.out _ _ _).more (by omega)⟩
     ·have d0:((r:Int) == 0)=false:=by simpa using(show ¬ (r:Int)=0 by omega)
      by_cases e1:r=1
      ·subst e1
       by_cases hl0:0<x.ldn
       ·obtain⟨s0,si,l1,l2,l3⟩:=info_parts Tryz.infoSeat
        have e4:(0:Int)<(x.ldn:Int):=by omega
        have k1:=za U.out.box 1 _ rfl;obtain⟨g,d7,d6,c5⟩:=qw U.out.own.ld.row (by omega)
        subst d7;obtain⟨ad,cd,hD,j4,j5,j6⟩:=zt (U.out.own.ld.se 0 hl0);have b5:Hid (u3.drew.ownsRow w.heap.size 138 2 (.slice ad (x.ld 0).sen cd) (x.ld 0).sen (zW (x.ld 0).se (x.ld 0).sen)):=hD ▸ ((U.out.own.below bZ.drew).ld.se 0 hl0);have j3:=hI ((a7.2.1.2 0 hl0).2.2);obtain⟨a8,a6⟩:=zT U.out.own.ld.row g rfl;have c4:Hid (∀ z:World,z.heap[g]?=u3.heap[g]?->z.cell? ⟨g,2,none⟩=some (.slice ad (x.ld 0).sen cd)):=fun z hz=>by
         have h:=zK U.out.own.ld.row 2 (by omega) rfl
         rw[zM 3 _ 0 2 (by decide)] at h
         rw[← hD];exact(zdr hz).trans h
        have d8:w.heap.size<=g:=d6;go_upto_region 16 with fail;have G:Hid (zbv w u3.drew T Y n c (90000000013000) ob x.san x.sa J (some ⟨g,0,none⟩) Q x.ldn x.bkn O P s L C):=U.out.weak.below bZ.drew;have o:=hI (zF a6);refine qy 12 13 (fun w'=>w'.cell? ⟨ob,1,none⟩=some (.slice (some ⟨g,0,none⟩) x.ldn P)/\w'.cell? ⟨g,2,none⟩=some (.slice ad (x.ld 0).sen cd)) rfl (by kernel_rfl) ⟨G.out.s.2.1,c4.out _ rfl⟩ (fun l=>?_)
        replace c4:Hid (∀ z:World,z.heap[g]?=some (.cells a8 136 (0,0))->z.cell? ⟨g,2,none⟩=some (.slice ad (x.ld 0).sen cd)):=fun z hz=>c4.out z (hz.trans a6.symm)
        clear U a6 k1 hD j4 j5 j6;simp only[List.replicate_succ,List.replicate_zero];generalize u3.drew=y0 at G b5 o l ⊢
        (refine tkL 0 (v:=?_) rfl (by kernel_rfl) (fun _ _ _ h=>h) rfl (by assumption) ?_ ?_;rotate_left;(focus(intro w' h;(try dsimp only at h);go_simp;try with_reducible rfl));simp only[Act.put,sB,sZ,sS])
        (refine tkL 1 (v:=?_) rfl (by kernel_rfl) (fun _ _ _ h=>h) rfl (by assumption) ?_ ?_;rotate_left;(focus(intro w' h;(try dsimp only at h);go_simp;try with_reducible rfl));simp only[Act.put,sB,sZ,sS])
        (refine tkL 2 (v:=?_) rfl (by kernel_rfl) (fun _ _ _ h=>h) rfl (by assumption) ?_ ?_;rotate_left;(focus(intro w' h;(try dsimp only at h);go_simp;try with_reducible rfl));simp only[Act.put,sB,sZ,sS])
        (refine tkL 3 (v:=?_) rfl (by kernel_rfl) (fun _ _ _ h=>h) rfl (by assumption) ?_ ?_;rotate_left;(focus(intro w' h;(try dsimp only at h);go_simp;try with_reducible rfl));simp only[Act.put,sB,sZ,sS])
        (refine tkL 4 (v:=?_) rfl (by kernel_rfl) (fun _ _ _ h=>h) rfl (by assumption) ?_ ?_;rotate_left;(focus(intro w' h;(try dsimp only at h);go_simp;try with_reducible rfl));simp only[Act.put,sB,sZ,sS])
        (refine tkL 5 (v:=?_) rfl (by kernel_rfl) (fun _ _ _ h=>h) rfl (by assumption) ?_ ?_;rotate_left;(focus(intro w' h;(try dsimp only at h);go_simp;try with_reducible rfl));simp only[Act.put,sB,sZ,sS])
        (refine tkL 6 (v:=?_) rfl (by kernel_rfl) (fun _ _ _ h=>h) rfl (by assumption) ?_ ?_;rotate_left;(focus(intro w' h;(try dsimp only at h);go_simp;try with_reducible rfl));simp only[Act.put,sB,sZ,sS])
        (refine tkL 7 (v:=?_) rfl (by kernel_rfl) (fun _ _ _ h=>h) rfl (by assumption) ?_ ?_;rotate_left;(focus(intro w' h;(try dsimp only at h);go_simp;try with_reducible rfl));simp only[Act.put,sB,sZ,sS])
        refine zh (rs:=[8]) (by kernel_rfl) (by simp) ?_
        refine zd.consL rfl (fun K d=>?_) zd.nil
        go_simp;have X:Hid (zbv w (y0.alloc (.cells #[int i64 700,int i64 1] 138)) T Y n c (90000000013000) ob x.san x.sa J (some ⟨g,0,none⟩) Q x.ldn x.bkn O P s L C):=G.out.below (zr bZ _);replace b5:Hid ((y0.alloc (.cells #[int i64 700,int i64 1] 138)).ownsRow w.heap.size 138 2 (.slice ad (x.ld 0).sen cd) (x.ld 0).sen (zW (x.ld 0).se (x.ld 0).sen)):=zm (zr bZ _) b5.out;have b9:Hid (∀ j u,[Value.int .i64 700,int i64 1][j]?=some u->(y0.alloc (.cells #[int i64 700,int i64 1] 138)).cell? ((⟨y0.heap.size,0,none⟩:Addr).add j)=some u):=World.news_of_block (cs:=#[int i64 700,int i64 1]) (t:=138) (fr:=(0,0)) (heap_alloc_new y0 _);replace o:Hid ((y0.alloc (.cells #[int i64 700,int i64 1] 138)).heap[g]?=some (.cells a8 136 (0,0))):=ze o.out _;refine d.out _ _ ⟨X.out.s.2.1,c4.out _ o.out⟩ (fun l=>?_)
        clear d K G;simp only[sZ,sS];generalize y0.alloc (.cells #[int i64 700,int i64 1] 138)=y1 at X b5 b9 o l ⊢;refine zh (rs:=[9]) (by kernel_rfl) (by simp) ?_
        refine zd.consL rfl (fun K d=>?_) zd.nil
        have l6:=j3.out;refine step_append_lies _ (by rfl) (.tmp 72) (.tmp 74) 132 (by rfl) w.heap.size 138 s0 (.agg #[int i64 0,int i64 0]) 2 16 Tryz.underlying132 si l1 l2 l3 rfl (by decide) _ (x.ld 0).sen (zW (x.ld 0).se (x.ld 0).sen) (by rfl) b5.out ⟨y0.heap.size,0,none⟩ 1 1 [int i64 700,int i64 1] (by rfl) (by rfl) b9.out (by intro u hu;simp at hu;rcases hu with rfl|rfl <;> rfl) (by decide) (by unfold maxLen;omega) (by omega) X.out.kept.size _ rfl ?_
        intro g2 f6 y2 j8 c5 i2 i5;have a0:Hid (zbv w y2 T Y n c (90000000013000) ob x.san x.sa J (some ⟨g,0,none⟩) Q x.ldn x.bkn O P s L C):=X.out.far I HL.out (zO c5) (fun b e=>⟨(b5.out.lt b e).1,by obtain⟨cs,e2⟩:=zT b5.out b e;exact⟨cs,_,e2,by decide,by decide,by decide,by decide⟩⟩)
        replace o:Hid (y2.heap[g]?=some (.cells a8 136 (0,0))):=(zO c5).blk o.out (fun e=>by obtain⟨cs,e2⟩:=zT b5.out g e;rw[o.out] at e2;simp at e2)
        refine d.out _ _ ⟨a0.out.s.2.1,c4.out _ o.out⟩ (fun l=>?_)
        clear d K X b5 b9 j8 c5 i2 i5;simp only[Act.put,sB,sZ,sS]
        (refine tkL 10 (v:=?_) rfl (by kernel_rfl) (fun _ _ _ h=>h) rfl (by assumption) ?_ ?_;rotate_left;(focus(intro w' h;(try dsimp only at h);go_simp;try with_reducible rfl));simp only[Act.put,sB,sZ,sS])
        (refine tkL 11 (v:=?_) rfl (by kernel_rfl) (fun _ _ _ h=>h) rfl (by assumption) ?_ ?_;rotate_left;(focus(intro w' h;(try dsimp only at h);go_simp;try with_reducible rfl));simp only[Act.put,sB,sZ,sS])
        have z2:=c4.out _ o.out;have h0:=zg o.out 2;refine zh (rs:=[12]) (by kernel_rfl) (by simp) ?_
        refine zd.lastL rfl (fun K d=>?_)
        go_simp;refine d.out _ _ ?_;clear d K;refine zH (by kernel_rfl) ?_ _
        go_wp2;go_meet;exact⟨x.san,x.sa,J,some ⟨g,0,none⟩,Q,x.ldn,x.bkn,O,P,s,L,C,a5,by omega,(a0.out.far I HL.out ((zA.refl y2 (fun b=>b=g)).set (a:=⟨g,2,none⟩) rfl _) (fun b e=>by have e:b=g:=e;subst e;exact⟨d8,_,_,o.out,by decide,by decide,by decide,by decide⟩)).more (by omega)⟩
       ·have e4:¬ (0:Int)<(x.ldn:Int):=by omega
        have k1:=za U.out.box 1 _ rfl;go_wp2;go_meet;exact⟨x.san,x.sa,J,R,Q,x.ldn,x.bkn,O,P,s,L,C,a5,by omega,U.out.weak.more (by omega)⟩
      ·have d1:((r:Int) == 1)=false:=by simpa using(show ¬ (r:Int)=1 by omega)
       by_cases e2:r=2
       ·subst e2
        by_cases hb0':0<x.bkn
        ·have e4:(0:Int)<(x.bkn:Int):=by omega
         have k2:=za U.out.box 2 _ rfl;obtain⟨g,d7,d6,c5⟩:=qw U.out.own.bk.row (by omega)
         subst d7;obtain⟨a8,a6⟩:=zT U.out.own.bk.row g rfl;have c6:Hid (u3.cell? ⟨g,11,none⟩=some (int i64 (x.bk 0).unt)):=by
          have h:=zK U.out.own.bk.row 11 (by omega) rfl
          rw[zM 13 _ 0 11 (by decide)] at h
          exact h
         have d8:w.heap.size<=g:=d6;go_upto_region 19 with fail;have G:Hid (zbv w u3.drew T Y n c (90000000013000) ob x.san x.sa J R (some ⟨g,0,none⟩) x.ldn x.bkn O P s L C):=U.out.weak.below bZ.drew;have o:=hI (zF a6);have c7:Hid (∀ z:World,z.heap[g]?=some (.cells a8 131 (0,0))->z.cell? ⟨g,11,none⟩=some (int i64 (x.bk 0).unt)):=fun z hz=>(zdr (hz.trans a6.symm)).trans c6.out
         refine qy 7 8 (fun w'=>w'.cell? ⟨ob,2,none⟩=some (.slice (some ⟨g,0,none⟩) x.bkn s)/\True) rfl (by kernel_rfl) ⟨G.out.s.2.2,trivial⟩ (fun l=>?_)
         clear U a6 k2 c6;simp only[List.replicate_succ,List.replicate_zero];generalize u3.drew=y0 at G o l ⊢
         (refine tkL 0 (v:=?_) rfl (by kernel_rfl) (fun _ _ _ h=>h) rfl (by assumption) ?_ ?_;rotate_left;(focus(intro w' h;(try dsimp only at h);go_simp;try with_reducible rfl));simp only[Act.put,sB,sZ,sS])
         (refine tkL 1 (v:=?_) rfl (by kernel_rfl) (fun _ _ _ h=>h) rfl (by assumption) ?_ ?_;rotate_left;(focus(intro w' h;(try dsimp only at h);go_simp;try with_reducible rfl));simp only[Act.put,sB,sZ,sS])
         (refine tkL 2 (v:=?_) rfl (by kernel_rfl) (fun _ _ _ h=>h) rfl (by assumption) ?_ ?_;rotate_left;(focus(intro w' h;(try dsimp only at h);go_simp;try with_reducible rfl));simp only[Act.put,sB,sZ,sS])
         refine zh (rs:=[3]) (by kernel_rfl) (by simp) ?_
         refine zd.consL rfl (fun K d=>?_) zd.nil
         go_simp;have X:Hid (zbv w (y0.alloc (.cells #[int i64 (-1),int i64 0,int i64 1,int i64 10001] 3)) T Y n c (90000000013000) ob x.san x.sa J R (some ⟨g,0,none⟩) x.ldn x.bkn O P s L C):=G.out.below (zr bZ _);replace o:Hid ((y0.alloc (.cells #[int i64 (-1),int i64 0,int i64 1,int i64 10001] 3)).heap[g]?=some (.cells a8 131 (0,0))):=ze o.out _;have f8:Hid ((y0.alloc (.cells #[int i64 (-1),int i64 0,int i64 1,int i64 10001] 3)).heap[y0.heap.size]?=some (.cells #[int i64 (-1),int i64 0,int i64 1,int i64 10001] 3 (0,0))):=heap_alloc_new y0 _;have k5:T<y0.heap.size:=G.out.cur.lt;refine d.out _ _ ⟨X.out.s.2.2,trivial⟩ (fun l=>?_)
         clear d K G;simp only[sZ,sS];generalize (y0.alloc (.cells #[int i64 (-1),int i64 0,int i64 1,int i64 10001] 3))=y1 at X o f8 l ⊢;generalize y0.heap.size=bl at f8 k5 ⊢;refine zh (rs:=[4]) (by kernel_rfl) (by simp) ?_
         refine zd.consL rfl (fun K d=>?_) zd.nil
         go_simp;go_at_call 73;refine Calls.mono (amongL T Y n c (90000000013000) 4 [-1,0,1,10001] y1 rfl (by omega) (by omega) (by omega) X.out.cur bl f8.out (by omega) ) ?_
         rintro e y2 ⟨⟨q,rfl⟩,H,p⟩;dsimp only;have a0:=hI (X.out.on I H p);replace o:Hid (y2.heap[g]?=some (.cells a8 131 (0,0))):=p.blk o.out (show ¬ g=T by omega)
         refine d.out _ _ ⟨a0.out.s.2.2,trivial⟩ (fun l=>?_)
         clear d K X H p;simp only[sZ,sS]
         (refine tkL 5 (v:=?_) rfl (by kernel_rfl) (fun _ _ _ h=>h) rfl (by assumption) ?_ ?_;rotate_left;(focus(intro w' h;(try dsimp only at h);go_simp;try with_reducible rfl));simp only[Act.put,sB,sZ,sS])
         (refine tkL 6 (v:=?_) rfl (by kernel_rfl) (fun _ _ _ h=>h) rfl (by assumption) ?_ ?_;rotate_left;(focus(intro w' h;(try dsimp only at h);go_simp;try with_reducible rfl));simp only[Act.put,sB,sZ,sS])
         have z2:=c7.out _ o.out;have h0:=zg o.out 11;refine zh (rs:=[7]) (by kernel_rfl) (by simp) ?_
         refine zd.lastL rfl (fun K d=>?_)
         go_simp;refine d.out _ _ ?_;clear d K;refine zH (by kernel_rfl) ?_ _
         go_wp2;go_meet;exact⟨x.san,x.sa,J,R,some ⟨g,0,none⟩,x.ldn,x.bkn,O,P,s,L,C,a5,by omega,(a0.out.far I HL.out ((zA.refl y2 (fun b=>b=g)).set (a:=⟨g,11,none⟩) rfl _) (fun b e=>by have e:b=g:=e;subst e;exact⟨d8,_,_,o.out,by decide,by decide,by decide,by decide⟩)).more (by omega)⟩
        ·have e4:¬ (0:Int)<(x.bkn:Int):=by omega
         have k2:=za U.out.box 2 _ rfl;go_wp2;go_meet;exact⟨x.san,x.sa,J,R,Q,x.ldn,x.bkn,O,P,s,L,C,a5,by omega,U.out.weak.more (by omega)⟩
       ·have d2:((r:Int) == 2)=false:=by simpa using(show ¬ (r:Int)=2 by omega)
        by_cases e3:r=3
        ·subst e3
         by_cases hb0':0<x.bkn
         ·have e4:(0:Int)<(x.bkn:Int):=by omega
          have k2:=za U.out.box 2 _ rfl;obtain⟨g,d7,d6,c5⟩:=qw U.out.own.bk.row (by omega)
          subst d7;obtain⟨a8,a6⟩:=zT U.out.own.bk.row g rfl;have c6:Hid (u3.cell? ⟨g,10,none⟩=some (int i64 (x.bk 0).state)):=by
           have h:=zK U.out.own.bk.row 10 (by omega) rfl
           rw[zM 13 _ 0 10 (by decide)] at h
           exact h
          have d8:w.heap.size<=g:=d6;go_upto_region 22 with fail;have G:Hid (zbv w u3.drew T Y n c (90000000013000) ob x.san x.sa J R (some ⟨g,0,none⟩) x.ldn x.bkn O P s L C):=U.out.weak.below bZ.drew;have o:=hI (zF a6);have c7:Hid (∀ z:World,z.heap[g]?=some (.cells a8 131 (0,0))->z.cell? ⟨g,10,none⟩=some (int i64 (x.bk 0).state)):=fun z hz=>(zdr (hz.trans a6.symm)).trans c6.out
          refine qy 6 7 (fun w'=>w'.cell? ⟨ob,2,none⟩=some (.slice (some ⟨g,0,none⟩) x.bkn s)/\True) rfl (by kernel_rfl) ⟨G.out.s.2.2,trivial⟩ (fun l=>?_)
          clear U a6 k2 c6;simp only[List.replicate_succ,List.replicate_zero];generalize u3.drew=y0 at G o l ⊢
          (refine tkL 0 (v:=?_) rfl (by kernel_rfl) (fun _ _ _ h=>h) rfl (by assumption) ?_ ?_;rotate_left;(focus(intro w' h;(try dsimp only at h);go_simp;try with_reducible rfl));simp only[Act.put,sB,sZ,sS])
          (refine tkL 1 (v:=?_) rfl (by kernel_rfl) (fun _ _ _ h=>h) rfl (by assumption) ?_ ?_;rotate_left;(focus(intro w' h;(try dsimp only at h);go_simp;try with_reducible rfl));simp only[Act.put,sB,sZ,sS])
          (refine tkL 2 (v:=?_) rfl (by kernel_rfl) (fun _ _ _ h=>h) rfl (by assumption) ?_ ?_;rotate_left;(focus(intro w' h;(try dsimp only at h);go_simp;try with_reducible rfl));simp only[Act.put,sB,sZ,sS])
          refine zh (rs:=[3]) (by kernel_rfl) (by simp) ?_
          refine zd.consL rfl (fun K d=>?_) zd.nil
          go_simp;go_at_call 59;refine Calls.mono (pick_any T Y n c (90000000013000) 6 y0 (by omega) (by omega) (by omega) G.out.cur ) ?_
          rintro e y2 ⟨⟨q,rfl,hq⟩,H,p⟩;dsimp only;have a0:=hI (G.out.on I H p);replace o:Hid (y2.heap[g]?=some (.cells a8 131 (0,0))):=p.blk o.out (show ¬ g=T by omega)
          refine d.out _ _ ⟨a0.out.s.2.2,trivial⟩ (fun l=>?_)
          clear d K G H p;simp only[sZ,sS]
          (refine tkL 4 (v:=?_) rfl (by kernel_rfl) (fun _ _ _ h=>h) rfl (by assumption) ?_ ?_;rotate_left;(focus(intro w' h;(try dsimp only at h);go_simp;try with_reducible rfl));simp only[Act.put,sB,sZ,sS])
          (refine tkL 5 (v:=?_) rfl (by kernel_rfl) (fun _ _ _ h=>h) rfl (by assumption) ?_ ?_;rotate_left;(focus(intro w' h;(try dsimp only at h);go_simp;try with_reducible rfl));simp only[Act.put,sB,sZ,sS])
          have z2:=c7.out _ o.out;have h0:=zg o.out 10;refine zh (rs:=[6]) (by kernel_rfl) (by simp) ?_
          refine zd.lastL rfl (fun K d=>?_)
          go_simp;refine d.out _ _ ?_;clear d K;refine zH (by kernel_rfl) ?_ _
          go_wp2;go_meet;exact⟨x.san,x.sa,J,R,some ⟨g,0,none⟩,x.ldn,x.bkn,O,P,s,L,C,a5,by omega,(a0.out.far I HL.out ((zA.refl y2 (fun b=>b=g)).set (a:=⟨g,10,none⟩) rfl _) (fun b e=>by have e:b=g:=e;subst e;exact⟨d8,_,_,o.out,by decide,by decide,by decide,by decide⟩)).more (by omega)⟩
         ·have e4:¬ (0:Int)<(x.bkn:Int):=by omega
          have k2:=za U.out.box 2 _ rfl;go_wp2;go_meet;exact⟨x.san,x.sa,J,R,Q,x.ldn,x.bkn,O,P,s,L,C,a5,by omega,U.out.weak.more (by omega)⟩
        ·have d3:((r:Int) == 3)=false:=by simpa using(show ¬ (r:Int)=3 by omega)
         go_wp2;go_meet;exact⟨x.san,x.sa,J,R,Q,x.ldn,x.bkn,O,P,s,L,C,a5,by omega,U.out.weak.more (by omega)⟩
    case rest =>
     obtain⟨N,S,J,R,Q,m2,m3,O,P,s,L,C,hN,j7,HE⟩:=hcut;clear U;obtain⟨k0,k1,k2⟩:=ce3 HE.out.box;obtain⟨r0,r1,r2⟩:=ce3 HE.out.res;obtain⟨f0,f1,f2⟩:=fe3 HE.out.res;go_wp2;have HX:=HE.out.fin I HL.out (.slice J N O) (.slice R m2 P) (.slice Q m3 s);obtain⟨z0,z1,z2⟩:=ce3 HX.2.2.1;clear k0 k1 k2 r0 r1 r2 f0 f1 f2;exact bodyPost_ret (v:=.agg #[.slice J N O,.slice R m2 P,.slice Q m3 s]) (by simp[results,Tryz.results30,go_sem,z0,z1,z2]) rfl ⟨⟨N,S,J,R,Q,m2,m3,O,P,s,L,C,rfl,hN,j7,HX.2.2.2⟩,HX.1.more (by omega),HX.2.1⟩
end Go.Proofs.YtfallpinmhbemaaGreatDoor

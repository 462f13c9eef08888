/-
  OWN TEXT: SpecEj, SpecEk, SpecEn, KitDa, TakeS0, SpecDa, SpecDb.
-/
import Derived.Deep.DeepCutAuto
import Derived.Deep.RegionLawGrows
import Derived.Deep.RegionHeld3
import Derived.Deep.AppendLies
import Derived.Great.Walk
import Derived.Test.YtmdnjgihooflfaaGreatDoorKitCo
import Derived.Test.YtmdnjgihooflfaaGreatDoorB28
namespace Go.Proofs.YtmdnjgihooflfaaGreatDoor
open Go.RowKit
open Go.Value (int)
open Go.IntKind (i64)
open Tryz
set_option maxHeartbeats 64000000
set_option maxRecDepth 100000
theorem l7End_2 (g base N R Z Y H M:Nat)(X U G o:Option Addr)(c:Int)(y:OpD)(x:Off)(L C A B D E:Nat->Value)(w:World)(hq:w.heap[g]?=some (.cells #[(X,N,Z),(U,N,Y),(G,R,H)] 38 (0,0)))(ho:zF w base (X,N,Z) (U,N,Y) (G,R,H) N N R x L C A B D E)(h7:x.bkn=R)(O:base<=w.heap.size)(f1:y.kind=2)(j0:In y.pe 0 20)(k6:y.lgn<=3)(h0:zT w o y.lgn y.lg)(h6:qj o y.lgn M)(h4:0<y.lgn->∀ a,o=some a->a.block<base)(hR:R<30) :
  Calls prog 93 #[.pointer (some (g,0)),c,.agg (y,o,M)] w λe w'=>zdm g base N Z Y X U (λb=>b=g∨(Value.slice G R H).ownBlock=some b) { x with bkn:=R+1,bk:=zah x.bk R (Qf R c y) } 0 ((R:Int)+1) (zE ⟨y.pe,y.len,y.hei,y.cl,y.all,y.be⟩ (y.lgn:Int)) (λ_ v=>v=.slice none 0 0) L C A B D w e w':=by
 obtain⟨n0,ni,f4,f5,f6⟩:=info_parts Tryz.infoInt;obtain⟨r0,ri,j3,j4,j5⟩:=info_parts Tryz.infoBookingO;rw[f1];have HO:=hI ho;have HQ:=hI hq;have i0:=hI f1;have k0:=hI h7;have f7:=hI O;have i3:=hI h0;have b5:=hI h6;have j9:=hI h4;clear ho hq f1 h7 O h0 h6 h4;obtain⟨l,f2⟩:∃ l,l=zE ⟨y.pe,y.len,y.hei,y.cl,y.all,y.be⟩ (y.lgn:Int):=⟨_,rfl⟩;have g6:=hI f2;have r:Below _ w ((w.alloc (.cells #[int i64 2,y.own,y.name,(o,y.lgn,M),y.pe,y.len,y.hei,y.cl,y.all,y.be,y.unt,y.now] 47)).alloc (.cells #[(),(),(),True] 41)):=zk (zk bZ _) _;have bO:=zd (Jb w (.cells #[int i64 2,y.own,y.name,(o,y.lgn,M),y.pe,y.len,y.hei,y.cl,y.all,y.be,y.unt,y.now] 47)) (.cells #[(),(),(),True] 41);have bA:=zfT w (.cells #[int i64 2,y.own,y.name,(o,y.lgn,M),y.pe,y.len,y.hei,y.cl,y.all,y.be,y.unt,y.now] 47) (.cells #[(),(),(),True] 41);go_enter func93,ntmps93;go_wp2_with fail;generalize ((w.alloc _).alloc _)=W at r bO bA ⊢;refine(Zy _ _ _ _ _ _ _ _ j0 (by unfold In;omega)).mono ?_
 rintro e V ⟨rfl,b1⟩;rw[← f2];clear f2;replace r:=ze r b1;replace bO:=zb bO b1;replace bA:=zb bA b1;clear b1 W;have o0:=za bO 0 _ rfl;have k1:((R:Int) == 30)=false:=by simp;omega
 have k2:(R == 30)=false:=by simp;omega
 have k7:IntKind.i64.wrap ((R:Int)+1)=(R:Int)+1:=by rw[Jk];omega
 have zq:=za (zb HQ r) 2 _ rfl;have b4:Hid (∀ z,_->zT z o _ _):=λz h=>i3.below (ze r h)
 have KS:Hid (∀ z,Below _ V z->z.cell? _=some (G,R,H)/\z.cell? _=some (.string _)/\z.cell? _=some (.slice o _ M)/\z.cell? _=some (.int _ _)/\z.cell? _=some (.int _ _)/\z.cell? _=some (.int _ _)/\z.cell? _=some (.int _ _)/\z.cell? _=some (.bool _)/\z.cell? _=some (.int _ _)):=λz h=>⟨za (zb HQ (ze r h)) 2 _ rfl,za (zb bO h) 1 _ rfl,za (zb bO h) 3 _ rfl,za (zb bO h) 4 _ rfl,za (zb bO h) 5 _ rfl,za (zb bO h) 6 _ rfl,za (zb bO h) 7 _ rfl,za (zb bO h) 8 _ rfl,za (zb bO h) 9 _ rfl⟩
 go_upto_region 11 with fail;refine qg 18 19 (λw'=>w'.cell? _=_/\w'.cell? _=_/\w'.cell? _=_/\w'.cell? _=_/\w'.cell? _=_/\w'.cell? _=_/\w'.cell? _=_/\w'.cell? _=_/\w'.cell? _=_) rfl (by kernel_rfl) (KS _ (Jh bZ)) (λhS=>?_)
 simp only[List.replicate_succ,List.replicate_zero]
 iterate 9 (refine tFL 0 (v:=?_) rfl (by kernel_rfl) (λ_ _ _ h=>h) rfl (by assumption) ?_ ?_;rotate_left;(focus(intro w' h;(try dsimp only at h);go_simp;try with_reducible rfl));simp only[Act.put,sB,sZ,sS])
 iterate 2 (refine tFL 10 (v:=?_) rfl (by kernel_rfl) (λ_ _ _ h=>h) rfl (by assumption) ?_ ?_;rotate_left;(focus(intro w' h;(try dsimp only at h);go_simp;try with_reducible rfl));simp only[Act.put,sB,sZ,sS])
 iterate 3 (refine tFL 13 (v:=?_) rfl (by kernel_rfl) (λ_ _ _ h=>h) rfl (by assumption) ?_ ?_;rotate_left;(focus(intro w' h;(try dsimp only at h);go_simp;try with_reducible rfl));simp only[Act.put,sB,sZ,sS])
 refine zj (rs:=[9,17]) (by kernel_rfl) (by simp) ?_
 refine zc.consL rfl (λK d=>?_) (zc.consL rfl (λK d=>?_) zc.nil)
 focus
  go_simp;refine d _ _ (KS _ (by repeat(first|with_reducible exact f|with_reducible exact bZ|with_reducible refine Jh ?_|with_reducible refine zk ?_ _))) (λhS=>?_)
  clear d K;simp only[sZ,sS];refine zj (rs:=[12,17]) (by kernel_rfl) (by simp) ?_
  refine zc.consL rfl (λK d=>?_) (zc.consL rfl (λK d=>?_) zc.nil)
  focus
   refine zP (by rfl) _ _ 27 (by rfl) 3 n0 _ 1 8 underlying27 ni f4 f5 f6 rfl (by decide) _ _ (by rfl) (by first|exact Jr _|omega|(simp;done)|(simp;omega)) (by repeat(first|((with_reducible refine Qa _ _ _ ?_);(first|with_reducible rfl|(simp;done)))|with_reducible refine zK ?_|with_reducible refine zd ?_ _)) o _ M _ (by rfl) b5.2.2 (by rw[Zn,Nat.mul_one]) (QY (b4 _ (by repeat(first|exact bZ|refine Jh ?_|refine zk ?_ _)))) (Qd _ _) (by unfold maxLen;omega) (by omega) ?_;intro m n u1 S T Q;clear Q;have f:Hid (Below _ V u1):=(by show Below _ _ _;refine ze ?_ (zr S);exact(by repeat(first|exact bZ|refine Jh ?_|refine zk ?_ _)));refine d _ _ (KS _ f) (λhS=>?_)
   clear d K;simp only[Act.put,sB,sZ,sS]
   (refine tFL 16 (v:=?_) rfl (by kernel_rfl) (λ_ _ _ h=>h) rfl (by assumption) ?_ ?_;rotate_left;(focus(intro w' h;(try dsimp only at h);go_simp;try with_reducible rfl));simp only[Act.put,sB,sZ,sS])
   refine zj (rs:=[17]) (by kernel_rfl) (by simp) ?_
   refine zc.consL rfl (λK d=>?_) zc.nil
   focus
    go_simp;refine d.out _ _ (KS.out _ (by repeat(first|with_reducible exact f.out|with_reducible exact bZ|with_reducible refine Jh ?_|with_reducible refine zk ?_ _))) (λhS=>?_)
    clear d K;simp only[sZ,sS];refine zj (rs:=[18]) (by kernel_rfl) (by simp) ?_
    refine zc.lastL rfl (λK d=>?_)
    go_simp;refine d _ _ ?_;clear d K;refine zX (by kernel_rfl) ?_ _
    have k:=Jb u1 (.cells #[int i64 ((R:Int)+1),c,y.own,(m,y.lgn,n),y.pe,y.len,y.hei,y.cl,y.all,y.be,int i64 2,(),l] 150);have I:=zk f (.cells #[int i64 ((R:Int)+1),c,y.own,(m,y.lgn,n),y.pe,y.len,y.hei,y.cl,y.all,y.be,int i64 2,(),l] 150);have P:Hid _:=zo (zk bZ (.cells #[int i64 ((R:Int)+1),c,y.own,(m,y.lgn,n),y.pe,y.len,y.hei,y.cl,y.all,y.be,int i64 2,(),l] 150)) T;generalize u1.alloc _=F at k I P ⊢;have J:=f.size;generalize u1.heap.size=bb at k J ⊢
  rotate_left 1
  focus
   go_simp;refine d _ _ (KS _ (by repeat(first|with_reducible exact f|with_reducible exact bZ|with_reducible refine Jh ?_|with_reducible refine zk ?_ _))) (λhS=>?_)
   clear d K;simp only[sZ,sS];refine zj (rs:=[12]) (by kernel_rfl) (by simp) ?_
   refine zc.consL rfl (λK d=>?_) zc.nil
   focus
    refine zP (by rfl) _ _ 27 (by rfl) 3 n0 _ 1 8 underlying27 ni f4 f5 f6 rfl (by decide) _ _ (by rfl) (by first|exact Jr _|omega|(simp;done)|(simp;omega)) (by repeat(first|((with_reducible refine Qa _ _ _ ?_);(first|with_reducible rfl|(simp;done)))|with_reducible refine zK ?_|with_reducible refine zd ?_ _)) o _ M _ (by rfl) b5.2.2 (by rw[Zn,Nat.mul_one]) (QY (b4 _ (by repeat(first|exact bZ|refine Jh ?_|refine zk ?_ _)))) (Qd _ _) (by unfold maxLen;omega) (by omega) ?_;intro m n u1 S T Q;clear Q;have f:Hid (Below _ V u1):=(by show Below _ _ _;refine ze ?_ (zr S);exact(by repeat(first|exact bZ|refine Jh ?_|refine zk ?_ _)));refine d _ _ (KS _ f) (λhS=>?_)
    clear d K;simp only[Act.put,sB,sZ,sS]
    (refine tFL 16 (v:=?_) rfl (by kernel_rfl) (λ_ _ _ h=>h) rfl (by assumption) ?_ ?_;rotate_left;(focus(intro w' h;(try dsimp only at h);go_simp;try with_reducible rfl));simp only[Act.put,sB,sZ,sS])
    have s:u1.heap[V.heap.size+1]?=some (.cells _ 150 _):=zb (by repeat(first|((with_reducible refine Qa _ _ _ ?_);(first|with_reducible rfl|(simp;done)))|with_reducible refine zK ?_|with_reducible refine zd ?_ _)) (zr S)
    obtain⟨d7,d8,d9,e4,e5,e6,e7,e8,e9,f0,a4,a5,a6⟩:=zeX s;obtain⟨b8,b9,c9,d0,d1,d2,d3,d4,d5,d6,a1,a2,a3⟩:=fe13 s;refine zj (rs:=[18]) (by kernel_rfl) (by simp) ?_
    refine zc.lastL rfl (λK d=>?_)
    go_simp;refine d _ _ ?_;clear d K;refine zX (by kernel_rfl) ?_ _
    have k:=zev s (int i64 ((R:Int)+1)) c y.own (m,y.lgn,n) y.pe y.len y.hei y.cl y.all y.be (int i64 2) () l;have I:=zew f (b:=V.heap.size+1) (by omega) (int i64 ((R:Int)+1)) c y.own (m,y.lgn,n) y.pe y.len y.hei y.cl y.all y.be (int i64 2) () l
    have P:Hid _:=(zdl u1 _ (int i64 ((R:Int)+1)) c y.own (m,y.lgn,n) y.pe y.len y.hei y.cl y.all y.be (int i64 2) () l).own T (zQ T s (by decide))
    clear s d7 b8 d8 b9 d9 c9 e4 d0 e5 d1 e6 d2 e7 d3 e8 d4 e9 d5 f0 d6 a4 a1 a5 a2 a6 a3;generalize (((((((((((((u1.setCell _ _).setCell _ _).setCell _ _).setCell _ _).setCell _ _).setCell _ _).setCell _ _).setCell _ _).setCell _ _).setCell _ _).setCell _ _).setCell _ _).setCell _ _)=F at k I P ⊢;have J:V.heap.size<=V.heap.size+1:=(by omega)
    generalize V.heap.size+1=bb at k J ⊢
 rotate_left 2
 focus
  go_simp;refine d _ _ (KS _ (by repeat(first|with_reducible exact f|with_reducible exact bZ|with_reducible refine Jh ?_|with_reducible refine zk ?_ _))) (λhS=>?_)
  clear d K;simp only[sZ,sS];refine zj (rs:=[9]) (by kernel_rfl) (by simp) ?_
  refine zc.consL rfl (λK d=>?_) zc.nil
  focus
   go_simp;refine d _ _ (KS _ (by repeat(first|with_reducible exact f|with_reducible exact bZ|with_reducible refine Jh ?_|with_reducible refine zk ?_ _))) (λhS=>?_)
   clear d K;simp only[sZ,sS];refine zj (rs:=[12]) (by kernel_rfl) (by simp) ?_
   refine zc.consL rfl (λK d=>?_) zc.nil
   focus
    refine zP (by rfl) _ _ 27 (by rfl) 3 n0 _ 1 8 underlying27 ni f4 f5 f6 rfl (by decide) V.heap.size _ (by rfl) (by first|exact Jr _|omega|(simp;done)|(simp;omega)) (by repeat(first|((with_reducible refine Qa _ _ _ ?_);(first|with_reducible rfl|(simp;done)))|with_reducible refine zK ?_|with_reducible refine zd ?_ _)) o _ M _ (by rfl) b5.2.2 (by rw[Zn,Nat.mul_one]) (QY (b4 _ (by repeat(first|exact bZ|refine Jh ?_|refine zk ?_ _)))) (Qd _ _) (by unfold maxLen;omega) (by omega) ?_;intro m n u1 S T Q;clear Q;have f:Hid (Below _ V u1):=(by show Below _ _ _;refine ze ?_ (zr S);exact(by repeat(first|exact bZ|refine Jh ?_|refine zk ?_ _)));refine d _ _ (KS _ f) (λhS=>?_)
    clear d K;simp only[Act.put,sB,sZ,sS]
    (refine tFL 16 (v:=?_) rfl (by kernel_rfl) (λ_ _ _ h=>h) rfl (by assumption) ?_ ?_;rotate_left;(focus(intro w' h;(try dsimp only at h);go_simp;try with_reducible rfl));simp only[Act.put,sB,sZ,sS])
    have s:u1.heap[V.heap.size]?=some (.cells _ 150 _):=zb (by repeat(first|((with_reducible refine Qa _ _ _ ?_);(first|with_reducible rfl|(simp;done)))|with_reducible refine zK ?_|with_reducible refine zd ?_ _)) (zr S)
    obtain⟨d7,d8,d9,e4,e5,e6,e7,e8,e9,f0,a4,a5,a6⟩:=zeX s;obtain⟨b8,b9,c9,d0,d1,d2,d3,d4,d5,d6,a1,a2,a3⟩:=fe13 s;refine zj (rs:=[18]) (by kernel_rfl) (by simp) ?_
    refine zc.lastL rfl (λK d=>?_)
    go_simp;refine d _ _ ?_;clear d K;refine zX (by kernel_rfl) ?_ _
    have k:=zev s (int i64 ((R:Int)+1)) c y.own (m,y.lgn,n) y.pe y.len y.hei y.cl y.all y.be (int i64 2) () l;have I:=zew f (b:=V.heap.size) (by omega) (int i64 ((R:Int)+1)) c y.own (m,y.lgn,n) y.pe y.len y.hei y.cl y.all y.be (int i64 2) () l
    have P:Hid _:=(zdl u1 _ (int i64 ((R:Int)+1)) c y.own (m,y.lgn,n) y.pe y.len y.hei y.cl y.all y.be (int i64 2) () l).own T (zQ T s (by decide))
    clear s d7 b8 d8 b9 d9 c9 e4 d0 e5 d1 e6 d2 e7 d3 e8 d4 e9 d5 f0 d6 a4 a1 a5 a2 a6 a3;generalize (((((((((((((u1.setCell (V.heap.size,0) (int i64 ((R:Int)+1))).setCell (V.heap.size,1) c).setCell (V.heap.size,2) y.own).setCell (V.heap.size,3) (m,y.lgn,n)).setCell (V.heap.size,4) y.pe).setCell (V.heap.size,5) y.len).setCell (V.heap.size,6) y.hei).setCell (V.heap.size,7) y.cl).setCell (V.heap.size,8) y.all).setCell (V.heap.size,9) y.be).setCell (V.heap.size,10) (int i64 2)).setCell (V.heap.size,11) ()).setCell (V.heap.size,12) l)=F at k I P ⊢;obtain⟨bb,g9⟩:∃ bb,bb=V.heap.size:=⟨_,rfl⟩;rw[← g9] at k ⊢;have J:V.heap.size<=bb:=by omega
    clear g9
 all_goals
  clear hS S T f;have O:=ze r I;have a9:=zb bO I;have b7:=zb bA I;have o0:=za a9 0 _ rfl;have k3:w.heap.size+1<V.heap.size:=zM bA;have i6:=za k 10 _ rfl;have i7:=za k 11 _ rfl;have i8:=zg k 10;have i9:=zg k 11;have j1:∀ v,(F.setCell (bb,10) v).cell? (w.heap.size,10)=some (int i64 y.unt):=λv=>za (zD (b':=bb) a9 10 v (by omega)) 10 _ rfl
  go_upto_region 15 with fail;have a8:((F.setCell (bb,10) (int i64 1)).setCell (bb,11) y.unt).heap[bb]?=some (.cells #[int i64 ((R:Int)+1),c,y.own,(m,y.lgn,n),y.pe,y.len,y.hei,y.cl,y.all,y.be,int i64 1,y.unt,l] 150 (0,0)):=by simpa using zm (zm k 10 (int i64 1)) 11 y.unt
  have b0:Below V.heap.size V ((F.setCell (bb,10) (int i64 1)).setCell (bb,11) y.unt):=Below.setCell (p:=(bb,11)) (Below.setCell (p:=(bb,10)) I J _) J _;have g7:Hid (((F.setCell ⟨bb,10,none⟩ (int i64 1)).setCell ⟨bb,11,none⟩ (int i64 y.unt)).ownsRow V.heap.size 3 1 (.slice m y.lgn n) y.lgn (zS y.lg y.lgn)):=(((zx.refl F (λb=>b=bb)).set (a:=⟨bb,10,none⟩) rfl (int i64 1)).set (a:=⟨bb,11,none⟩) rfl (int i64 y.unt)).own P.out (zQ P.out k (by decide))
  generalize (F.setCell (bb,10) (int i64 1)).setCell (bb,11) y.unt=F2 at a8 b0 g7 ⊢;clear i6 i7 i8 i9 o0 j1;clear k I P O a9 b7 F;have O:=ze r b0;have a9:=zb bO b0;have b7:=zb bA b0;have qF:=zb HQ O;have k4:g<w.heap.size:=zM HQ;have b6:Hid (∀ z:World,z.heap[g]?=some (.cells #[(X,N,Z),(U,N,Y),(G,R,H)] 38 (0,0))->z.heap[bb]?=some (.cells #[int i64 ((R:Int)+1),c,y.own,(m,y.lgn,n),y.pe,y.len,y.hei,y.cl,y.all,y.be,int i64 1,y.unt,l] 150 (0,0))->z.cell? (g,2)=some (G,R,H)/\z.cell? (bb,0)=some (int i64 ((R:Int)+1))/\z.cell? (bb,1)=some (int i64 c)/\z.cell? (bb,2)=some (.string y.own)/\z.cell? (bb,3)=some (m,y.lgn,n)/\z.cell? (bb,4)=some (int i64 y.pe)/\z.cell? (bb,5)=some (int i64 y.len)/\z.cell? (bb,6)=some (int i64 y.hei)/\z.cell? (bb,7)=some (int i64 y.cl)/\z.cell? (bb,8)=some (.bool y.all)/\z.cell? (bb,9)=some (int i64 y.be)/\z.cell? (bb,10)=some (int i64 1)/\z.cell? (bb,11)=some (int i64 y.unt)/\z.cell? (bb,12)=some (int i64 l)):=λz h1 h2=>⟨za h1 2 _ rfl,za h2 0 _ rfl,za h2 1 _ rfl,za h2 2 _ rfl,za h2 3 _ rfl,za h2 4 _ rfl,za h2 5 _ rfl,za h2 6 _ rfl,za h2 7 _ rfl,za h2 8 _ rfl,za h2 9 _ rfl,za h2 10 _ rfl,za h2 11 _ rfl,za h2 12 _ rfl⟩
  refine qg 10 11 (λw'=>w'.cell? ⟨g,2,none⟩=some (.slice G R H)/\w'.cell? ⟨bb,0,none⟩=some (int i64 ((R:Int)+1))/\w'.cell? ⟨bb,1,none⟩=some (int i64 c)/\w'.cell? ⟨bb,2,none⟩=some (.string y.own)/\w'.cell? ⟨bb,3,none⟩=some (.slice m y.lgn n)/\w'.cell? ⟨bb,4,none⟩=some (int i64 y.pe)/\w'.cell? ⟨bb,5,none⟩=some (int i64 y.len)/\w'.cell? ⟨bb,6,none⟩=some (int i64 y.hei)/\w'.cell? ⟨bb,7,none⟩=some (int i64 y.cl)/\w'.cell? ⟨bb,8,none⟩=some (.bool y.all)/\w'.cell? ⟨bb,9,none⟩=some (int i64 y.be)/\w'.cell? ⟨bb,10,none⟩=some (int i64 1)/\w'.cell? ⟨bb,11,none⟩=some (int i64 y.unt)/\w'.cell? ⟨bb,12,none⟩=some (int i64 l)) rfl (by kernel_rfl) (b6.out _ qF a8) (λhS=>?_)
  simp only[List.replicate_succ,List.replicate_zero]
  iterate 6 (refine tFL 0 (v:=?_) rfl (by kernel_rfl) (λ_ _ _ h=>h) rfl (by assumption) ?_ ?_;rotate_left;(focus(intro w' h;(try dsimp only at h);go_simp;try with_reducible rfl));simp only[Act.put,sB,sZ,sS])
  refine zj (rs:=[6]) (by kernel_rfl) (by simp) ?_
  refine zc.consL rfl (λK d=>?_) zc.nil
  refine zdk (by rfl) 36 150 1 #[(0,.tmp 73)] (by rfl) underlying36 #[int i64 ((R:Int)+1),c,y.own,(m,y.lgn,n),y.pe,y.len,y.hei,y.cl,y.all,y.be,int i64 1,y.unt,l] (Eq.trans (congrArg (Program.builtSlice prog 150 1) (show _=[(0,Value.agg #[int i64 ((R:Int)+1),c,y.own,(m,y.lgn,n),y.pe,y.len,y.hei,y.cl,y.all,y.be,int i64 1,y.unt,l])] from by first|(simp[go_sem];done)|rfl|kernel_rfl)) (zeO ((R:Int)+1) c y.pe y.len y.hei y.cl y.be 1 y.unt l y.own y.all m y.lgn n)) ?_
  refine d _ _ (b6 _ (zd qF _) (zd a8 _)) (λhS=>?_)
  clear d K;simp only[Act.put,sB,sZ,sS];have j8:F2.drew.heap.size=F2.heap.size:=rfl;refine zj (rs:=[7]) (by kernel_rfl) (by simp) ?_
  refine zc.consL rfl (λK d=>?_) zc.nil
  have a0:Hid (zF (F2.drew.alloc (.cells #[int i64 ((R:Int)+1),c,y.own,(m,y.lgn,n),y.pe,y.len,y.hei,y.cl,y.all,y.be,int i64 1,y.unt,l] 150)) base (X,N,Z) (U,N,Y) (G,R,H) N N R x L C A B D E):=HO.below (zk (Jh O) _);refine step_append_lies _ (by rfl) (.tmp 72) (.tmp 74) 36 (by rfl) base 150 r0 (.agg #[(),(),False,True,(),(),(),(),.bool false,(),(),(),()]) 13 128 underlying36 ri j3 j4 j5 rfl (by decide) _ R (zbg x.bk E R) (by rfl) a0.out.bk.row _ 1 1 [int i64 ((R:Int)+1),c,y.own,(m,y.lgn,n),y.pe,y.len,y.hei,y.cl,y.all,y.be,int i64 1,y.unt,l] (by rfl) (by rfl) (Jo (cs:=#[int i64 ((R:Int)+1),c,y.own,(m,y.lgn,n),y.pe,y.len,y.hei,y.cl,y.all,y.be,int i64 1,y.unt,l]) (t:=150) (fr:=(0,0)) (Jb F2.drew _)) (by intro u hu;simp at hu;rcases hu with rfl|rfl|rfl|rfl|rfl|rfl|rfl|rfl|rfl|rfl|rfl|rfl|rfl <;> rfl) (by decide) (by unfold maxLen;omega) (by omega) (by have:=f7.out;have:=O.size;simp;omega) _ rfl ?_
  intro g2 q u2 h5 a7 j6 j7;have qU:=(qJ a7).blk (zd (zK qF) (.cells #[int i64 ((R:Int)+1),c,y.own,(m,y.lgn,n),y.pe,y.len,y.hei,y.cl,y.all,y.be,int i64 1,y.unt,l] 150)) (λe=>by obtain⟨cs,e2⟩:=zA a0.bk.row g e;rw[zd (zK qF) (.cells #[int i64 ((R:Int)+1),c,y.own,(m,y.lgn,n),y.pe,y.len,y.hei,y.cl,y.all,y.be,int i64 1,y.unt,l] 150)] at e2;simp at e2)
  have bU:=(qJ a7).blk (zd (zK a8) (.cells #[int i64 ((R:Int)+1),c,y.own,(m,y.lgn,n),y.pe,y.len,y.hei,y.cl,y.all,y.be,int i64 1,y.unt,l] 150)) (λe=>by have h1:=(HO.bk.row.lt bb e).2;have:=r.size;omega)
  have aU:=(qJ a7).blk (zd (zK b7) (.cells #[int i64 ((R:Int)+1),c,y.own,(m,y.lgn,n),y.pe,y.len,y.hei,y.cl,y.all,y.be,int i64 1,y.unt,l] 150)) (λe=>by have h1:=(HO.bk.row.lt _ e).2;omega)
  refine d _ _ (b6 _ qU bU) (λhS=>?_)
  clear d K;simp only[Act.put,sB,sZ,sS]
  iterate 2 (refine tFL 8 (v:=?_) rfl (by kernel_rfl) (λ_ _ _ h=>h) rfl (by assumption) ?_ ?_;rotate_left;(focus(intro w' h;(try dsimp only at h);go_simp;try with_reducible rfl));simp only[Act.put,sB,sZ,sS])
  have q0:=za qU 2 _ rfl;have j2:=zg qU 2;refine zj (rs:=[10]) (by kernel_rfl) (by simp) ?_
  refine zc.lastL rfl (λK d=>?_)
  go_simp;refine d _ _ ?_;clear d K;refine zX (by kernel_rfl) ?_ _
  have qG:=zlK qU (some (g2,0),R+1,q);have bG:=zD (b':=g) bU 2 (some (g2,0),R+1,q) (by omega)
  have aG:=zD (b':=g) aU 2 (some (g2,0),R+1,q) (by omega)
  have g3:Hid (Qf R c y=⟨(R:Int)+1,c,y.own,y.lgn,y.lg,y.pe,y.len,y.hei,y.cl,y.all,y.be,1,y.unt,l⟩):=by show _=_;unfold Qf;rw[i0.out,← g6.out];rfl
  have i5:Hid (zF (F2.drew.alloc (.cells #[int i64 ((R:Int)+1),c,y.own,(m,y.lgn,n),y.pe,y.len,y.hei,y.cl,y.all,y.be,int i64 1,y.unt,l] 150)) base (X,N,Z) (U,N,Y) (G,R,H) N N R { x with bkn:=R+1,bk:=zah x.bk R (Qf R c y) } L C A B D E):=⟨a0.sa,a0.ld,a0.bk.congr (λi hi=>(zaf _ _ _ (by omega)).symm)⟩
  have i4:Hid (zF u2 base (X,N,Z) (U,N,Y) (some (g2,0),R+1,q) N N (R+1) { x with bkn:=R+1,bk:=zah x.bk R (Qf R c y) } L C A B D (atV E R (m,y.lgn,n))):=by
   refine i5.book (lim:=V.heap.size) (λi hi b e=>by have h1:=((HO.bk.legs i hi).lt b e).2;have:=r.size;omega) ?_ (Jp f7 r.size) a7 ?_
   ·dsimp only
    rw[ZL,g3.out];exact zo (zk (Jh bZ) _) g7
   ·have e1:zbg (zah x.bk R (Qf R c y)) E R=zbg x.bk E R:=List.map_congr_left λj hj=>by
     have k5:j<R*13:=by simpa using hj
     unfold zZ bkC;rw[zaf _ _ _ (by omega)]
    dsimp only;rw[e1];unfold bkC;rw[ZL,qu,g3.out];exact h5
  have b2:zx u2 (u2.setCell (g,2) (some (g2,0),R+1,q)) (λb=>b=g):=(zx.refl u2 (λb=>b=g)).set (a:=(g,2)) rfl _
  have g5:Hid _:=i4.box b2 qU (by decide)
  have g1:Hid (zx w (u2.setCell (g,2) (some (g2,0),R+1,q)) (λb=>b=g∨(Value.slice G R H).ownBlock=some b)):=((zx.of_below (zk (Jh O) _)).trans ((qJ a7).mono (λb e=>.inr e))).trans (b2.mono (λb e=>.inl e))
  have c0:=za bG 0 _ rfl;generalize u2.setCell (g,2) (some (g2,0),R+1,q)=Z1 at qG bG aG b2 g5 g1 c0 ⊢;obtain⟨g4,g8,g0,bF⟩:=zbC g1 g5 qG aG (by omega) () (int i64 ((R:Int)+1)) l True rfl
  obtain⟨v0,v1,v2,v3⟩:=ce4 aG;obtain⟨e0,e1,e2,e3⟩:=fe4 aG;have b3:Hid _:=g4;have f9:Hid _:=g8;have f8:Hid _:=g0;clear g4 g8 g0;clear q0 j2 hS b2 h5;go_wp2;obtain⟨x0,x1,x2,x3⟩:=ce4 bF;refine Jj (v:=.agg #[(),int i64 ((R:Int)+1),l,True]) (by simp[results,results93,go_sem,x0,x1,x2,x3]) rfl ?_
  rw[g6.out] at b3 f9 f8 ⊢;exact⟨_,_,_,_,rfl,rfl,b3,f9,f8⟩
theorem l7End_3 (g base N R a7 a6 a5 q:Nat)(Y X U l:Option Addr)(c:Int)(y:OpD)(x:Off)(L C A B D E:Nat->Value)(w:World)(hq:w.heap[g]?=some (.cells #[(Y,N,a7),(X,N,a6),(U,R,a5)] 38 (0,0)))(ho:zF w base (Y,N,a7) (X,N,a6) (U,R,a5) N N R x L C A B D E)(i6:x.bkn=R)(p:base<=w.heap.size)(f2:y.kind=3)(j1:In y.pe 0 20)(k6:y.lgn<=3)(i0:zT w l y.lgn y.lg)(i5:qj l y.lgn q)(i3:0<y.lgn->∀ a,l=some a->a.block<base)(hR:R<30) :
  Calls prog 93 #[.pointer (some (g,0)),c,.agg (y,l,q)] w λe w'=>zdm g base N a7 a6 Y X (λb=>b=g∨(Value.slice U R a5).ownBlock=some b) { x with bkn:=R+1,bk:=zah x.bk R (Qf R c y) } 0 ((R:Int)+1) (zE ⟨y.pe,y.len,y.hei,y.cl,y.all,y.be⟩ (y.lgn:Int)) (λ_ v=>v=.slice none 0 0) L C A B D w e w':=by
 obtain⟨n0,ni,f5,f6,f7⟩:=info_parts Tryz.infoInt;obtain⟨r0,ri,j3,j4,j5⟩:=info_parts Tryz.infoBookingO;rw[f2];have HO:=hI ho;have HQ:=hI hq;have i7:=hI f2;have k0:=hI i6;have f8:=hI p;have i8:=hI i0;have b7:=hI i5;have j9:=hI i3;clear ho hq f2 i6 p i0 i5 i3;obtain⟨r,f4⟩:∃ r,r=zE ⟨y.pe,y.len,y.hei,y.cl,y.all,y.be⟩ (y.lgn:Int):=⟨_,rfl⟩;have g7:=hI f4;have m:Below _ w ((w.alloc (.cells #[int i64 3,y.own,y.name,(l,y.lgn,q),y.pe,y.len,y.hei,y.cl,y.all,y.be,y.unt,y.now] 47)).alloc (.cells #[(),(),(),True] 41)):=zk (zk bZ _) _;have P:=zd (Jb w (.cells #[int i64 3,y.own,y.name,(l,y.lgn,q),y.pe,y.len,y.hei,y.cl,y.all,y.be,y.unt,y.now] 47)) (.cells #[(),(),(),True] 41);have bA:=zfT w (.cells #[int i64 3,y.own,y.name,(l,y.lgn,q),y.pe,y.len,y.hei,y.cl,y.all,y.be,y.unt,y.now] 47) (.cells #[(),(),(),True] 41);go_enter func93,ntmps93;go_wp2_with fail;generalize ((w.alloc _).alloc _)=W at m P bA ⊢;refine(Zy _ _ _ _ _ _ _ _ j1 (by unfold In;omega)).mono ?_
 rintro e V ⟨rfl,b3⟩;rw[← f4];clear f4;replace m:=ze m b3;replace P:=zb P b3;replace bA:=zb bA b3;clear b3 W;have o0:=za P 0 _ rfl;have k1:((R:Int) == 30)=false:=by simp;omega
 have k2:(R == 30)=false:=by simp;omega
 have k7:IntKind.i64.wrap ((R:Int)+1)=(R:Int)+1:=by rw[Jk];omega
 have zq:=za (zb HQ m) 2 _ rfl;have b6:Hid (∀ z,_->zT z l _ _):=λz h=>i8.below (ze m h)
 have KS:Hid (∀ z,Below _ V z->z.cell? _=some (U,R,a5)/\z.cell? _=some (.string _)/\z.cell? _=some (.slice l _ q)/\z.cell? _=some (.int _ _)/\z.cell? _=some (.int _ _)/\z.cell? _=some (.int _ _)/\z.cell? _=some (.int _ _)/\z.cell? _=some (.bool _)/\z.cell? _=some (.int _ _)):=λz h=>⟨za (zb HQ (ze m h)) 2 _ rfl,za (zb P h) 1 _ rfl,za (zb P h) 3 _ rfl,za (zb P h) 4 _ rfl,za (zb P h) 5 _ rfl,za (zb P h) 6 _ rfl,za (zb P h) 7 _ rfl,za (zb P h) 8 _ rfl,za (zb P h) 9 _ rfl⟩
 go_upto_region 11 with fail;refine qg 18 19 (λw'=>w'.cell? _=_/\w'.cell? _=_/\w'.cell? _=_/\w'.cell? _=_/\w'.cell? _=_/\w'.cell? _=_/\w'.cell? _=_/\w'.cell? _=_/\w'.cell? _=_) rfl (by kernel_rfl) (KS _ (Jh bZ)) (λS=>?_)
 simp only[List.replicate_succ,List.replicate_zero]
 iterate 9 (refine tFL 0 (v:=?_) rfl (by kernel_rfl) (λ_ _ _ h=>h) rfl (by assumption) ?_ ?_;rotate_left;(focus(intro w' h;(try dsimp only at h);go_simp;try with_reducible rfl));simp only[Act.put,sB,sZ,sS])
 iterate 2 (refine tFL 10 (v:=?_) rfl (by kernel_rfl) (λ_ _ _ h=>h) rfl (by assumption) ?_ ?_;rotate_left;(focus(intro w' h;(try dsimp only at h);go_simp;try with_reducible rfl));simp only[Act.put,sB,sZ,sS])
 iterate 3 (refine tFL 13 (v:=?_) rfl (by kernel_rfl) (λ_ _ _ h=>h) rfl (by assumption) ?_ ?_;rotate_left;(focus(intro w' h;(try dsimp only at h);go_simp;try with_reducible rfl));simp only[Act.put,sB,sZ,sS])
 refine zj (rs:=[9,17]) (by kernel_rfl) (by simp) ?_
 refine zc.consL rfl (λK d=>?_) (zc.consL rfl (λK d=>?_) zc.nil)
 focus
  go_simp;refine d _ _ (KS _ (by repeat(first|with_reducible exact f|with_reducible exact bZ|with_reducible refine Jh ?_|with_reducible refine zk ?_ _))) (λS=>?_)
  clear d K;simp only[sZ,sS];refine zj (rs:=[12,17]) (by kernel_rfl) (by simp) ?_
  refine zc.consL rfl (λK d=>?_) (zc.consL rfl (λK d=>?_) zc.nil)
  focus
   refine zP (by rfl) _ _ 27 (by rfl) 3 n0 _ 1 8 underlying27 ni f5 f6 f7 rfl (by decide) _ _ (by rfl) (by first|exact Jr _|omega|(simp;done)|(simp;omega)) (by repeat(first|((with_reducible refine Qa _ _ _ ?_);(first|with_reducible rfl|(simp;done)))|with_reducible refine zK ?_|with_reducible refine zd ?_ _)) l _ q _ (by rfl) b7.2.2 (by rw[Zn,Nat.mul_one]) (QY (b6 _ (by repeat(first|exact bZ|refine Jh ?_|refine zk ?_ _)))) (Qd _ _) (by unfold maxLen;omega) (by omega) ?_;intro M O u1 I J H;clear H;have f:Hid (Below _ V u1):=(by show Below _ _ _;refine ze ?_ (zr I);exact(by repeat(first|exact bZ|refine Jh ?_|refine zk ?_ _)));refine d _ _ (KS _ f) (λS=>?_)
   clear d K;simp only[Act.put,sB,sZ,sS]
   (refine tFL 16 (v:=?_) rfl (by kernel_rfl) (λ_ _ _ h=>h) rfl (by assumption) ?_ ?_;rotate_left;(focus(intro w' h;(try dsimp only at h);go_simp;try with_reducible rfl));simp only[Act.put,sB,sZ,sS])
   refine zj (rs:=[17]) (by kernel_rfl) (by simp) ?_
   refine zc.consL rfl (λK d=>?_) zc.nil
   focus
    go_simp;refine d.out _ _ (KS.out _ (by repeat(first|with_reducible exact f.out|with_reducible exact bZ|with_reducible refine Jh ?_|with_reducible refine zk ?_ _))) (λS=>?_)
    clear d K;simp only[sZ,sS];refine zj (rs:=[18]) (by kernel_rfl) (by simp) ?_
    refine zc.lastL rfl (λK d=>?_)
    go_simp;refine d _ _ ?_;clear d K;refine zX (by kernel_rfl) ?_ _
    have k:=Jb u1 (.cells #[int i64 ((R:Int)+1),c,y.own,(M,y.lgn,O),y.pe,y.len,y.hei,y.cl,y.all,y.be,int i64 2,(),r] 150);have n:=zk f (.cells #[int i64 ((R:Int)+1),c,y.own,(M,y.lgn,O),y.pe,y.len,y.hei,y.cl,y.all,y.be,int i64 2,(),r] 150);have s:Hid _:=zo (zk bZ (.cells #[int i64 ((R:Int)+1),c,y.own,(M,y.lgn,O),y.pe,y.len,y.hei,y.cl,y.all,y.be,int i64 2,(),r] 150)) J;generalize u1.alloc _=F at k n s ⊢;have Q:=f.size;generalize u1.heap.size=bb at k Q ⊢
  rotate_left 1
  focus
   go_simp;refine d _ _ (KS _ (by repeat(first|with_reducible exact f|with_reducible exact bZ|with_reducible refine Jh ?_|with_reducible refine zk ?_ _))) (λS=>?_)
   clear d K;simp only[sZ,sS];refine zj (rs:=[12]) (by kernel_rfl) (by simp) ?_
   refine zc.consL rfl (λK d=>?_) zc.nil
   focus
    refine zP (by rfl) _ _ 27 (by rfl) 3 n0 _ 1 8 underlying27 ni f5 f6 f7 rfl (by decide) _ _ (by rfl) (by first|exact Jr _|omega|(simp;done)|(simp;omega)) (by repeat(first|((with_reducible refine Qa _ _ _ ?_);(first|with_reducible rfl|(simp;done)))|with_reducible refine zK ?_|with_reducible refine zd ?_ _)) l _ q _ (by rfl) b7.2.2 (by rw[Zn,Nat.mul_one]) (QY (b6 _ (by repeat(first|exact bZ|refine Jh ?_|refine zk ?_ _)))) (Qd _ _) (by unfold maxLen;omega) (by omega) ?_;intro M O u1 I J H;clear H;have f:Hid (Below _ V u1):=(by show Below _ _ _;refine ze ?_ (zr I);exact(by repeat(first|exact bZ|refine Jh ?_|refine zk ?_ _)));refine d _ _ (KS _ f) (λS=>?_)
    clear d K;simp only[Act.put,sB,sZ,sS]
    (refine tFL 16 (v:=?_) rfl (by kernel_rfl) (λ_ _ _ h=>h) rfl (by assumption) ?_ ?_;rotate_left;(focus(intro w' h;(try dsimp only at h);go_simp;try with_reducible rfl));simp only[Act.put,sB,sZ,sS])
    have o:u1.heap[V.heap.size+1]?=some (.cells _ 150 _):=zb (by repeat(first|((with_reducible refine Qa _ _ _ ?_);(first|with_reducible rfl|(simp;done)))|with_reducible refine zK ?_|with_reducible refine zd ?_ _)) (zr I)
    obtain⟨d8,d9,e4,e5,e6,e7,e8,e9,f0,f1,a2,a3,a4⟩:=zeX o;obtain⟨b9,c9,d0,d1,d2,d3,d4,d5,d6,d7,Z,a0,a1⟩:=fe13 o;refine zj (rs:=[18]) (by kernel_rfl) (by simp) ?_
    refine zc.lastL rfl (λK d=>?_)
    go_simp;refine d _ _ ?_;clear d K;refine zX (by kernel_rfl) ?_ _
    have k:=zev o (int i64 ((R:Int)+1)) c y.own (M,y.lgn,O) y.pe y.len y.hei y.cl y.all y.be (int i64 2) () r;have n:=zew f (b:=V.heap.size+1) (by omega) (int i64 ((R:Int)+1)) c y.own (M,y.lgn,O) y.pe y.len y.hei y.cl y.all y.be (int i64 2) () r
    have s:Hid _:=(zdl u1 _ (int i64 ((R:Int)+1)) c y.own (M,y.lgn,O) y.pe y.len y.hei y.cl y.all y.be (int i64 2) () r).own J (zQ J o (by decide))
    clear o d8 b9 d9 c9 e4 d0 e5 d1 e6 d2 e7 d3 e8 d4 e9 d5 f0 d6 f1 d7 a2 Z a3 a0 a4 a1;generalize (((((((((((((u1.setCell _ _).setCell _ _).setCell _ _).setCell _ _).setCell _ _).setCell _ _).setCell _ _).setCell _ _).setCell _ _).setCell _ _).setCell _ _).setCell _ _).setCell _ _)=F at k n s ⊢;have Q:V.heap.size<=V.heap.size+1:=(by omega)
    generalize V.heap.size+1=bb at k Q ⊢
 rotate_left 2
 focus
  go_simp;refine d _ _ (KS _ (by repeat(first|with_reducible exact f|with_reducible exact bZ|with_reducible refine Jh ?_|with_reducible refine zk ?_ _))) (λS=>?_)
  clear d K;simp only[sZ,sS];refine zj (rs:=[9]) (by kernel_rfl) (by simp) ?_
  refine zc.consL rfl (λK d=>?_) zc.nil
  focus
   go_simp;refine d _ _ (KS _ (by repeat(first|with_reducible exact f|with_reducible exact bZ|with_reducible refine Jh ?_|with_reducible refine zk ?_ _))) (λS=>?_)
   clear d K;simp only[sZ,sS];refine zj (rs:=[12]) (by kernel_rfl) (by simp) ?_
   refine zc.consL rfl (λK d=>?_) zc.nil
   focus
    refine zP (by rfl) _ _ 27 (by rfl) 3 n0 _ 1 8 underlying27 ni f5 f6 f7 rfl (by decide) V.heap.size _ (by rfl) (by first|exact Jr _|omega|(simp;done)|(simp;omega)) (by repeat(first|((with_reducible refine Qa _ _ _ ?_);(first|with_reducible rfl|(simp;done)))|with_reducible refine zK ?_|with_reducible refine zd ?_ _)) l _ q _ (by rfl) b7.2.2 (by rw[Zn,Nat.mul_one]) (QY (b6 _ (by repeat(first|exact bZ|refine Jh ?_|refine zk ?_ _)))) (Qd _ _) (by unfold maxLen;omega) (by omega) ?_;intro M O u1 I J H;clear H;have f:Hid (Below _ V u1):=(by show Below _ _ _;refine ze ?_ (zr I);exact(by repeat(first|exact bZ|refine Jh ?_|refine zk ?_ _)));refine d _ _ (KS _ f) (λS=>?_)
    clear d K;simp only[Act.put,sB,sZ,sS]
    (refine tFL 16 (v:=?_) rfl (by kernel_rfl) (λ_ _ _ h=>h) rfl (by assumption) ?_ ?_;rotate_left;(focus(intro w' h;(try dsimp only at h);go_simp;try with_reducible rfl));simp only[Act.put,sB,sZ,sS])
    have o:u1.heap[V.heap.size]?=some (.cells _ 150 _):=zb (by repeat(first|((with_reducible refine Qa _ _ _ ?_);(first|with_reducible rfl|(simp;done)))|with_reducible refine zK ?_|with_reducible refine zd ?_ _)) (zr I)
    obtain⟨d8,d9,e4,e5,e6,e7,e8,e9,f0,f1,a2,a3,a4⟩:=zeX o;obtain⟨b9,c9,d0,d1,d2,d3,d4,d5,d6,d7,Z,a0,a1⟩:=fe13 o;refine zj (rs:=[18]) (by kernel_rfl) (by simp) ?_
    refine zc.lastL rfl (λK d=>?_)
    go_simp;refine d _ _ ?_;clear d K;refine zX (by kernel_rfl) ?_ _
    have k:=zev o (int i64 ((R:Int)+1)) c y.own (M,y.lgn,O) y.pe y.len y.hei y.cl y.all y.be (int i64 2) () r;have n:=zew f (b:=V.heap.size) (by omega) (int i64 ((R:Int)+1)) c y.own (M,y.lgn,O) y.pe y.len y.hei y.cl y.all y.be (int i64 2) () r
    have s:Hid _:=(zdl u1 _ (int i64 ((R:Int)+1)) c y.own (M,y.lgn,O) y.pe y.len y.hei y.cl y.all y.be (int i64 2) () r).own J (zQ J o (by decide))
    clear o d8 b9 d9 c9 e4 d0 e5 d1 e6 d2 e7 d3 e8 d4 e9 d5 f0 d6 f1 d7 a2 Z a3 a0 a4 a1;generalize (((((((((((((u1.setCell _ _).setCell _ _).setCell _ _).setCell _ _).setCell _ _).setCell _ _).setCell _ _).setCell _ _).setCell _ _).setCell _ _).setCell _ _).setCell _ _).setCell _ _)=F at k n s ⊢;obtain⟨bb,h7⟩:∃ bb,bb=V.heap.size:=⟨_,rfl⟩;rw[← h7] at k ⊢;have Q:V.heap.size<=bb:=by omega
    clear h7
 all_goals
  clear S I J f;have p:=ze m n;have b1:=zb P n;have a9:=zb bA n;have o0:=za b1 0 _ rfl;have k3:=zM bA;have g9:=za k 10 _ rfl;have h0:=za k 11 _ rfl;have h4:=zg k 10;have h5:=zg k 11;go_upto_region 15 with fail;have b0:=k;have b2:=n;have g8:=hI s;generalize F=F2 at b0 b2 g8 k n s p b1 a9 o0 g9 h0 h4 h5 ⊢;clear g9 h0 h4 h5 o0;clear k n s p b1 a9;have p:=ze m b2;have b1:=zb P b2;have a9:=zb bA b2;have qF:=zb HQ p;have k4:=zM HQ;have b8:Hid (∀ z:World,z.heap[g]?=some (.cells #[(Y,N,a7),(X,N,a6),_] 38 _)->z.heap[bb]?=some (.cells #[_,_,_,_,_,_,_,_,_,_,_,_,_] 150 _)->z.cell? _=some (U,R,a5)/\z.cell? _=some (int i64 ((R:Int)+1))/\z.cell? _=some (int i64 c)/\z.cell? _=some (.string y.own)/\z.cell? _=some (M,y.lgn,O)/\z.cell? _=some (int i64 y.pe)/\z.cell? _=some (int i64 y.len)/\z.cell? _=some (int i64 y.hei)/\z.cell? _=some (int i64 y.cl)/\z.cell? _=some (.bool y.all)/\z.cell? _=some (int i64 y.be)/\z.cell? _=some (int i64 2)/\z.cell? _=some ()/\z.cell? _=some (int i64 r)):=λz h1 h2=>⟨za h1 2 _ rfl,za h2 0 _ rfl,za h2 1 _ rfl,za h2 2 _ rfl,za h2 3 _ rfl,za h2 4 _ rfl,za h2 5 _ rfl,za h2 6 _ rfl,za h2 7 _ rfl,za h2 8 _ rfl,za h2 9 _ rfl,za h2 10 _ rfl,za h2 11 _ rfl,za h2 12 _ rfl⟩
  refine qg 10 11 (λw'=>w'.cell? _=_/\w'.cell? _=_/\w'.cell? _=_/\w'.cell? _=_/\w'.cell? _=_/\w'.cell? _=_/\w'.cell? _=_/\w'.cell? _=_/\w'.cell? _=_/\w'.cell? _=_/\w'.cell? _=_/\w'.cell? _=_/\w'.cell? _=_/\w'.cell? _=_) rfl (by kernel_rfl) (b8 _ qF b0) (λS=>?_)
  simp only[List.replicate_succ,List.replicate_zero]
  iterate 6 (refine tFL 0 (v:=?_) rfl (by kernel_rfl) (λ_ _ _ h=>h) rfl (by assumption) ?_ ?_;rotate_left;(focus(intro w' h;(try dsimp only at h);go_simp;try with_reducible rfl));simp only[Act.put,sB,sZ,sS])
  refine zj (rs:=[6]) (by kernel_rfl) (by simp) ?_
  refine zc.consL rfl (λK d=>?_) zc.nil
  refine zdk (by rfl) 36 150 1 _ (by rfl) underlying36 _ (Eq.trans (congrArg (Program.builtSlice prog 150 1) (show _=[(0,Value.agg #[int i64 ((R:Int)+1),c,y.own,(M,y.lgn,O),y.pe,y.len,y.hei,y.cl,y.all,y.be,int i64 2,(),r])] from by first|(simp[go_sem];done)|rfl|kernel_rfl)) (zeO ((R:Int)+1) c y.pe y.len y.hei y.cl y.be 2 0 r y.own y.all M y.lgn O)) ?_
  refine d _ _ (b8 _ (zd qF _) (zd b0 _)) (λS=>?_)
  clear d K;simp only[Act.put,sB,sZ,sS];have j8:F2.drew.heap.size=F2.heap.size:=rfl;refine zj (rs:=[7]) (by kernel_rfl) (by simp) ?_
  refine zc.consL rfl (λK d=>?_) zc.nil
  have T:Hid (zF (F2.drew.alloc (.cells #[int i64 ((R:Int)+1),c,y.own,(M,y.lgn,O),y.pe,y.len,y.hei,y.cl,y.all,y.be,int i64 2,(),r] 150)) _ _ _ _ N N R x L C A B D E):=HO.below (zk (Jh p) _);refine step_append_lies _ (by rfl) _ _ 36 (by rfl) _ 150 r0 _ 13 128 underlying36 ri j3 j4 j5 rfl (by decide) _ R _ (by rfl) T.out.bk.row _ 1 1 [_,_,_,_,_,_,_,_,_,_,_,_,_] (by rfl) (by rfl) (Jo (t:=150) (fr:=(0,0)) (Jb F2.drew _)) (by intro u hu;simp at hu;rcases hu with rfl|rfl|rfl|rfl|rfl|rfl|rfl|rfl|rfl|rfl|rfl|rfl|rfl <;> rfl) (by decide) (by unfold maxLen;omega) (by omega) (by have:=f8.out;have:=p.size;simp;omega) _ rfl ?_
  intro g2 G u2 i4 a8 j6 j7;have qU:=(qJ a8).blk (zd (zK qF) _) (λe=>by obtain⟨cs,e2⟩:=zA T.bk.row g e;rw[zd (zK qF) _] at e2;simp at e2)
  have bU:=(qJ a8).blk (zd (zK b0) _) (λe=>by have h1:=(HO.bk.row.lt bb e).2;have:=m.size;omega)
  have aU:=(qJ a8).blk (zd (zK a9) _) (λe=>by have h1:=(HO.bk.row.lt _ e).2;omega)
  refine d _ _ (b8 _ qU bU) (λS=>?_)
  clear d K;simp only[Act.put,sB,sZ,sS]
  iterate 2 (refine tFL 8 (v:=?_) rfl (by kernel_rfl) (λ_ _ _ h=>h) rfl (by assumption) ?_ ?_;rotate_left;(focus(intro w' h;(try dsimp only at h);go_simp;try with_reducible rfl));simp only[Act.put,sB,sZ,sS])
  have q0:=za qU 2 _ rfl;have j2:=zg qU 2;refine zj (rs:=[10]) (by kernel_rfl) (by simp) ?_
  refine zc.lastL rfl (λK d=>?_)
  go_simp;refine d _ _ ?_;clear d K;refine zX (by kernel_rfl) ?_ _
  have qG:=zlK qU (some (g2,0),R+1,G);have bG:=zD (b':=g) bU 2 (some (g2,0),R+1,G) (by omega)
  have aG:=zD (b':=g) aU 2 (some (g2,0),R+1,G) (by omega)
  have g4:Hid (Qf R c y=⟨(R:Int)+1,c,y.own,y.lgn,y.lg,y.pe,y.len,y.hei,y.cl,y.all,y.be,2,0,r⟩):=by show _=_;unfold Qf;rw[i7.out,← g7.out];rfl
  have j0:Hid (zF _ _ _ _ _ N N R { x with bkn:=R+1,bk:=zah _ R (Qf R c y) } L C A B D E):=⟨T.sa,T.ld,T.bk.congr (λi hi=>(zaf _ _ _ (by omega)).symm)⟩
  have i9:Hid (zF u2 base (Y,N,a7) (X,N,a6) (some (g2,0),R+1,G) N N (R+1) { x with bkn:=R+1,bk:=zah x.bk R (Qf R c y) } L C A B D (atV E R (M,y.lgn,O))):=by
   refine j0.book (λi hi b e=>by have h1:=((HO.bk.legs i hi).lt b e).2;have:=m.size;omega) ?_ (Jp f8 m.size) a8 ?_
   ·dsimp only
    rw[ZL,g4.out];exact zo (zk (Jh bZ) _) g8
   ·have e1:zbg (zah _ R (Qf R c y)) E R=zbg x.bk E R:=List.map_congr_left λj hj=>by
     have k5:=by simpa using hj
     unfold zZ bkC;rw[zaf _ _ _ (by omega)]
    dsimp only;rw[e1];unfold bkC;rw[ZL,qu,g4.out];exact i4
  have b4:zx u2 (u2.setCell _ (some (g2,0),R+1,G)) _:=(zx.refl u2 (λb=>b=g)).set (a:=(g,2)) rfl _
  have g6:=hI (i9.box b4 qU (by decide))
  have g3:Hid (zx w _ (λb=>_∨_)):=((zx.of_below (zk (Jh p) _)).trans ((qJ a8).mono (λb e=>.inr e))).trans (b4.mono (λb e=>.inl e))
  have c0:=za bG 0 _ rfl;generalize u2.setCell _ _=Z1 at qG bG aG b4 g6 g3 c0 ⊢;obtain⟨g5,h6,g1,bF⟩:=zbC g3 g6 qG aG (by omega) () (int i64 ((R:Int)+1)) r True rfl
  obtain⟨v0,v1,v2,v3⟩:=ce4 aG;obtain⟨e0,e1,e2,e3⟩:=fe4 aG;have b5:=hI g5;have g0:=hI h6;have f9:=hI g1;clear g5 h6 g1;clear q0 j2 S b4 i4;go_wp2;obtain⟨x0,x1,x2,x3⟩:=ce4 bF;refine Jj (v:=.agg #[(),int i64 ((R:Int)+1),r,True]) (by simp[results,results93,go_sem,x0,x1,x2,x3]) rfl ?_
  rw[g7.out] at b5 g0 f9 ⊢;exact⟨_,_,_,_,rfl,rfl,b5,g0,f9⟩
def zbR (x:Off)(b:ql)(y:OpD):Int :=
 if y.kind=4 then b.price
 else if y.kind=5 then zE ⟨y.pe,y.len,y.hei,y.cl,y.all,y.be⟩ y.lgn
 else if y.kind=6 then Z6 b.price ((x.sa (zW x.sa (b.lg 0) x.san)).dep - y.now)
 else 0
def zfu (x:Off)(b:Int)(y:OpD)(m:Nat)(c:Off)(a name price:Int):Prop :=
 (y.kind=1/\c=x/\a=0/\name=0/\price=zE ⟨y.pe,y.len,y.hei,y.cl,y.all,y.be⟩ y.lgn) ∨
 (y.kind=9/\c=x/\a=0/\name=0/\price=0) ∨
 ((y.kind=2∨y.kind=3)/\x.bkn=30/\c=x/\a=8/\name=0/\price=0) ∨
 ((y.kind=2∨y.kind=3)/\x.bkn<30/\c={ x with bkn:=x.bkn+1,bk:=zah x.bk x.bkn (Qf x.bkn b y) }/\a=0/\name=(x.bkn:Int)+1/\price=zE ⟨y.pe,y.len,y.hei,y.cl,y.all,y.be⟩ y.lgn) ∨
 (In y.kind 4 8/\m<x.bkn/\c={ x with bk:=zah x.bk m (qx (x.bk m) b y) }/\a=0/\name=y.name/\price=zbR x (x.bk m) y)
def zdA (x:Off)(y:OpD)(base:Nat)(z:World)(v:Value):Prop :=
 (y.kind=9->∃ k,zW x.sa (y.lg 0) x.san=k/\k<x.san/\z.ownsRow base 203 5 v (Qn (x.ld k) x.bk (y.lg 0) x.bkn).length (qW (zeM (Qn (x.ld k) x.bk (y.lg 0) x.bkn)) (Qn (x.ld k) x.bk (y.lg 0) x.bkn).length))/\(y.kind≠9->v=.slice none 0 0)
theorem zdm.mono {g base N m l:Nat}{k j:Option Addr}{T o:Nat->Prop}{p:Off}{f name price:Int}{n i:World->Value->Prop}{L C A B D:Nat->Value}{w:World}{e:Ending}{w':World}(h:zdm g base N m l k j T p f name price n L C A B D w e w')(t:∀ b,T b->o b)(s:∀ v,n w' v->i w' v):zdm g base N m l k j o p f name price i L C A B D w e w':=by
 obtain⟨a,b,c,d,h1,h2,h3,q,r⟩:=h;exact⟨a,b,c,d,h1,s _ h2,h3,q,r.mono t⟩
theorem zjg {y:OpD}(h:zac y):In y.pe 0 20/\y.lgn<=3:=by
 have h1:=h.2.2.2.2.1;have h2:=h.2.2.2.1;unfold qA at h1;unfold qi at h2
 by_cases c:zJ y.kind
 ·rw[Jf c] at h1 h2
  have:In y.pe 1 20:=h1.1;unfold In at this ⊢
  omega
 ·rw[Je c] at h1 h2
  have:y.pe=0:=h1.1;refine⟨by rw[this];unfold In;omega,?_⟩
  split at h2 <;> omega
theorem l7End_any (g base N R k j o r m:Nat)(f d l n:Option Addr)(q:Int)(y:OpD)(x:Off)(L C A B D E:Nat->Value)(w:World)(M:w.heap[g]?=some (.cells #[(f,N,k),(d,N,j),(l,R,o)] 38 (0,0)))(K:zF w base (f,N,k) (d,N,j) (l,R,o) N N R x L C A B D E)(p:x.bkn=R)(I:x.san=N)(Z:x.ldn=N)(s:base<=w.heap.size)(t:zT w n y.lgn y.lg)(H:qj n y.lgn r)(F:0<y.lgn->∀ a,n=some a->a.block<base)
  (T:ZZ x y m) (hT:QJ x.san x.sa) (hR:R<=30) (hs:Off.Short x 1048576) (X:∀ i,i<R->zad x.san x.sa (x.bk i).lgn (x.bk i).lg) :
  Calls prog 93 #[.pointer (some (g,0)),q,.agg (y,n,r)] w λe w'=>∃ x2 code name price,zfu x q y m x2 code name price/\zdm g base N k j f d (λb=>b=g∨(Value.slice l R o).ownBlock=some b) x2 code name price (zdA x y w.heap.size) L C A B D w e w':=by
 obtain⟨G,u⟩:=zjg T.1;have hN:N<=6:=by rw[← I];exact hT.1
 have hk:=T.1.1;have nil:∀ z v,y.kind≠9->_->zdA x y w.heap.size z v:=λz v h e=>⟨λV=>absurd V h,λ_=>e⟩
 by_cases hnamed:In y.kind 4 8
 ·obtain⟨J,O,_⟩:=T.2.2 hnamed
  rw[p] at O;have n9:y.kind≠9:=by unfold In at hnamed;omega
  have fin:∀ {e w' price},_->zdm g _ N k j f d _ _ 0 _ price (λ_ v=>v=_) L C A B D w e w' ->
    ∃ x2 code name price,zfu x q y m x2 code name price/\zdm g base N k j f d (λb=>b=g∨(Value.slice l R o).ownBlock=some b) x2 code name price _ L C A B D w e w':=λhp h =>
   ⟨_,_,_,_,.inr (.inr (.inr (.inr ⟨hnamed,by rw[p];exact O,rfl,rfl,rfl,hp⟩))),h.mono (λ_ h=>h) (λv h=>nil _ v n9 h)⟩
  have c:y.kind=4∨y.kind=5∨y.kind=6∨y.kind=7∨y.kind=8:=by unfold In at hnamed;omega
  rcases c with c|c|c|c|c
  ·refine(l7End_4 g _ N R k j o r m f d l n q y x L C A B D E w M K p s c G u t H F J O (by omega)).mono (λe w' h=>fin ?_ h)
   unfold zbR;rw[Jf c]
  ·refine(l7End_5 g _ N R k j o r m f d l n q y x L C A B D E w M K p s c G u t H F J O (by omega)).mono (λe w' h=>fin ?_ h)
   unfold zbR;rw[Je (by omega),Jf c]
  ·have W:=X m O
   have P:=(W.2.2 0 (by have:=W.1;omega)).1
   have S:=(hT.2 _ P).1;have U:=T.1.2.2.2.2.2.2;refine(l7End_6 g _ N R k j o r m f d l n q y x L C A B D E w M K p s c G u t H F J O (by omega) (zW _ _ x.san) (by have:=W.1;omega) (by rw[I]) (by rw[I] at P ⊢;exact P) ?_ (by omega)).mono (λe w' h=>fin ?_ h)
   ·have h1:=S.2.2.2.2.1
    have h2:=S.2.2.2.2.2.1;have h3:=S.2.2.2.2.2.2.1;unfold zbW In at U
    omega
   ·unfold zbR;rw[Je (by omega),Je (by omega),Jf c]
  ·refine(l7End_7 g _ N R k j o r m f d l n q y x L C A B D E w M K p s c G u t H F J O (by omega)).mono (λe w' h=>fin ?_ h)
   unfold zbR;rw[Je (by omega),Je (by omega),Je (by omega)]
  ·refine(l7End_8 g _ N R k j o r m f d l n q y x L C A B D E w M K p s c G u t H F J O (by omega)).mono (λe w' h=>fin ?_ h)
   unfold zbR;rw[Je (by omega),Je (by omega),Je (by omega)]
 ·have c:y.kind=1∨y.kind=2∨y.kind=3∨y.kind=9:=by unfold In at hnamed hk;omega
  rcases c with c|c|c|c
  ·refine(l7End_1 g _ N R k j o r f d l n q y x L C A B D E w M K p s c G u t H F).mono (λe w' h=>?_)
   exact⟨_,_,_,_,.inl ⟨c,rfl,rfl,rfl,rfl⟩,h.mono (λ_ h=>h.elim) (λv h=>nil _ v (by omega) h)⟩
  ·by_cases h30:R=30
   ·refine(l7End_2f g _ N R k j o r f d l n q y x L C A B D E w M K p s c G u t H F h30).mono (λe w' h=>?_)
    exact⟨_,_,_,_,.inr (.inr (.inl ⟨.inl c,by omega,rfl,rfl,rfl,rfl⟩)),h.mono (λ_ h=>h.elim) (λv h=>nil _ v (by omega) h)⟩
   ·refine(l7End_2 g _ N R k j o r f d l n q y x L C A B D E w M K p s c G u t H F (by omega)).mono (λe w' h=>?_)
    subst p;exact⟨_,_,_,_,.inr (.inr (.inr (.inl ⟨.inl c,by omega,rfl,rfl,rfl,rfl⟩))),h.mono (λ_ h=>h) (λv h=>nil _ v (by omega) h)⟩
  ·by_cases h30:R=30
   ·refine(l7End_3f g _ N R k j o r f d l n q y x L C A B D E w M K p s c G u t H F h30).mono (λe w' h=>?_)
    exact⟨_,_,_,_,.inr (.inr (.inl ⟨.inr c,by omega,rfl,rfl,rfl,rfl⟩)),h.mono (λ_ h=>h.elim) (λv h=>nil _ v (by omega) h)⟩
   ·refine(l7End_3 g _ N R k j o r f d l n q y x L C A B D E w M K p s c G u t H F (by omega)).mono (λe w' h=>?_)
    subst p;exact⟨_,_,_,_,.inr (.inr (.inr (.inl ⟨.inr c,by omega,rfl,rfl,rfl,rfl⟩))),h.mono (λ_ h=>h) (λv h=>nil _ v (by omega) h)⟩
  ·have Y:0<y.lgn:=by
    have:=T.1.2.2.2.1;unfold qi at this;rw[Je (by unfold zJ;omega),Jf c] at this
    omega
   have Q:zW x.sa (y.lg 0) x.san<x.san:=by
    have h1:=zcm x.sa (y.lg 0) x.san
    rcases Nat.lt_or_eq_of_le h1 with h|h
    ·exact h
    ·exact absurd (.inr ⟨c,h⟩) T.2.1
   refine(l7End_9 g _ N R k j o r f d l n q y x L C A B D E w M K p s c G u t H F (zW _ _ x.san) Y (by rw[I]) (by rw[I] at Q ⊢;exact Q) hs I Z (by omega)).mono (λe w' h=>?_)
   exact⟨_,_,_,_,.inr (.inl ⟨c,rfl,rfl,rfl,rfl⟩),h.mono (λ_ h=>h.elim) (λv h=>⟨λ_=>⟨_,rfl,Q,h⟩,λV=>absurd c V⟩)⟩
section
open Go.RowKit
def zfW (g base N R k i c h:Nat)(f a d:Option Addr)(v:Wk)(x:Off)(L C E:Nat->Value)(w:World)(e:Ending)(w':World):Prop :=
 ∃ code y A B D,e=.returned (int i64 code)/\qV (x.sa k) v (x.ld k) code y/\zF w' base (.slice f N i) (.slice a N c) (.slice d R h) N N R { x with ld:=zht x.ld k y } L C A B D E /\
  w'.heap[g]?=some (.cells #[(f,N,i),(a,N,c),(d,R,h)] 38 (0,0))/\zx w w' (λb=>(Value.slice a N c).ownBlock=some b)
section
variable {w z : World} {g gl base N R k csa cld cbk n : Nat} {asa abk : Option Addr} {v : Wk} {x : Off} {L C A B D E : Nat -> Value} {u : Value}
theorem doSt {T:Nat->Zp}(l:zF w base (asa,N,csa) (some (gl,0),N,cld) (abk,R,cbk) N N R x L C A B D E)(o:w.heap[g]?=some (.cells #[(asa,N,csa),(some (gl,0),N,cld),(abk,R,cbk)] 38 (0,0)))(h:base<=w.heap.size)(f:Below w.heap.size w z)(d:z.ownsRow w.heap.size 220 4 u n (zy T n))(q:qV (x.sa k) v (x.ld k) 0 { x.ld k with stn:=n,st:=T }) :
  zfW g base N R k csa cld cbk asa (some (gl,0)) abk v x L C E w (.returned ()) (z.setCell (gl,k*3) u):=by
 obtain⟨cs,c⟩:=zA l.ld.row gl rfl;have j:g≠gl:=λe=>by subst e;rw[o] at c;simp at c
 have m:=(zx.refl z (λb=>(Value.slice (some ⟨gl,0,none⟩) N cld).ownBlock=some b)).set (a:=⟨gl,k*3+0,none⟩) rfl u
 exact⟨0,_,_,_,_,rfl,q,(l.below f).putSt (λi p b e=>((l.ld.st i p).lt b e).2) d h,m.blk (zb o f) (λe=>j (by simpa [Value.ownBlock] using e.symm)),(zx.of_below f).trans m⟩
theorem doRo {T:Nat->qN}(l:zF w base (asa,N,csa) (some (gl,0),N,cld) (abk,R,cbk) N N R x L C A B D E)(o:w.heap[g]?=some (.cells #[(asa,N,csa),(some (gl,0),N,cld),(abk,R,cbk)] 38 (0,0)))(h:base<=w.heap.size)(f:Below w.heap.size w z)(d:z.ownsRow w.heap.size 228 4 u n (zw T n))(q:qV (x.sa k) v (x.ld k) 0 { x.ld k with ron:=n,ro:=T }) :
  zfW g base N R k csa cld cbk asa (some (gl,0)) abk v x L C E w (.returned ()) (z.setCell (gl,k*3+1) u):=by
 obtain⟨cs,c⟩:=zA l.ld.row gl rfl;have j:g≠gl:=λe=>by subst e;rw[o] at c;simp at c
 have m:=(zx.refl z (λb=>(Value.slice (some ⟨gl,0,none⟩) N cld).ownBlock=some b)).set (a:=⟨gl,k*3+1,none⟩) rfl u
 exact⟨0,_,_,_,_,rfl,q,(l.below f).putRo (λi p b e=>((l.ld.ro i p).lt b e).2) d h,m.blk (zb o f) (λe=>j (by simpa [Value.ownBlock] using e.symm)),(zx.of_below f).trans m⟩
theorem doSe {T:Nat->Qe}(l:zF w base (asa,N,csa) (some (gl,0),N,cld) (abk,R,cbk) N N R x L C A B D E)(o:w.heap[g]?=some (.cells #[(asa,N,csa),(some (gl,0),N,cld),(abk,R,cbk)] 38 (0,0)))(h:base<=w.heap.size)(f:Below w.heap.size w z)(d:z.ownsRow w.heap.size 234 2 u n (zB T n))(q:qV (x.sa k) v (x.ld k) 0 { x.ld k with sen:=n,se:=T }) :
  zfW g base N R k csa cld cbk asa (some (gl,0)) abk v x L C E w (.returned ()) (z.setCell (gl,k*3+2) u):=by
 obtain⟨cs,c⟩:=zA l.ld.row gl rfl;have j:g≠gl:=λe=>by subst e;rw[o] at c;simp at c
 have m:=(zx.refl z (λb=>(Value.slice (some ⟨gl,0,none⟩) N cld).ownBlock=some b)).set (a:=⟨gl,k*3+2,none⟩) rfl u
 exact⟨0,_,_,_,_,rfl,q,(l.below f).putSe (λi p b e=>((l.ld.se i p).lt b e).2) d h,m.blk (zb o f) (λe=>j (by simpa [Value.ownBlock] using e.symm)),(zx.of_below f).trans m⟩
theorem doNo {b:Option Addr}{a:Int}(d:zF w base (.slice asa N csa) (.slice b N cld) (.slice abk R cbk) N N R x L C A B D E)(e:w.heap[g]?=some (.cells #[.slice asa N csa,.slice b N cld,.slice abk R cbk] 38 (0,0)))(c:Below w.heap.size w z)(f:qV (x.sa k) v (x.ld k) a (x.ld k)) :
  zfW g base N R k csa cld cbk asa b abk v x L C E w (.returned a) z :=
 ⟨a,_,_,_,_,rfl,f,by rw[setL_same];exact d.below c,zb e c,zx.of_below c⟩
end
end
def zaY (r k:Nat):Nat:=if k<=r then k else k - 1
theorem zjh (bo:Option Addr)(n c r:Nat)(S:Nat->Zp)(x:Int)(w:World)(hn:n<=60)(hr:r<n)(J:Qc S r=x)(H:∀ j,j<n->j≠r->Qc S j≠x)(K:qw w bo n S) :
  Calls prog 165 #[(bo,n,c),x] w λe w'=>(∃ v,e=.returned v/\w'.ownsRow w.heap.size 220 4 v (n - 1) (zy (Zx S r) (n - 1)))/\Below w.heap.size w w':=by
 obtain⟨T,U,C,D,E⟩:=info_parts Tryz.infoStay;have N:=hI K;have G:=hI J;have M:=hI H;clear K J H;go_enter func165,ntmps165;go_wp2;go_loopw [5,7,10] (λv _ i wr=>∃ k,k<=n/\i=int i64 k/\wr.ownsRow w.heap.size 220 4 v (zaY r k) (zy (Zx S r) (zaY r k))/\Below w.heap.size w wr) (λ_ _ i _=>n - (intOf i).toNat)
 case atStart=>exact⟨0,Jq _,rfl,⟨rfl,.inl ⟨rfl,rfl⟩⟩,bZ⟩
 case round =>
  obtain⟨k,hk,rfl,d,a⟩:=hrel
  by_cases hlt:k<n
  ·obtain⟨b,off,rfl,y,h1,h2,h3⟩:=N k hlt
   have o:=Ja w _ y;have c0:=(a.cell o).trans y;have c1:=(a.cell (p:=⟨b,_+1,_⟩) o).trans h1;have c2:=(a.cell (p:=⟨b,_+2,_⟩) o).trans h2;have c3:=(a.cell (p:=⟨b,_+3,_⟩) o).trans h3;clear y h1 h2 h3
   by_cases he:k=r
   ·have O:((S k).who == x)=true:=by rw[he];simpa [Qc] using G.out
    have P:((S k).who != x)=false:=by rw[he];simpa [Qc] using G.out
    have l:Hid (zaY r (k+1)=zaY r k):=by
     have m:zaY r _=k+1 - 1:=Je (by omega)
     have f:zaY r k=k:=Jf (by omega)
     show _=_
     omega
    clear he;go_wp2;go_roundw
    case rel=>exact⟨k+1,by omega,by go_num,by rw[l.out];exact zo (zk bZ _) d,zk a _⟩
    case measure=>simp[intOf];omega
   ·have g:=M k hlt he
    have O:((S k).who == x)=false:=by simpa [Qc] using g
    have P:((S k).who != x)=true:=by simpa [Qc] using g
    have l:Hid (zaY r (k+1)=zaY r k+1/\Zx S r (zaY r k)=S k/\zaY r k<=60):=by
     by_cases c:k<=r
     ·have m:zaY r _=k+1:=Jf (by omega)
      have f:zaY r k=k:=Jf c;have s:Zx S r k=S k:=Jf (by omega)
      rw[m,f,s];exact⟨rfl,rfl,by omega⟩
     ·have m:zaY r _=k+1 - 1:=Je (by omega)
      have f:zaY r k=_:=Je c;have s:Zx S r _=S (k - 1+1):=Je (by omega)
      rw[m,f,s];exact⟨by omega,by rw[show k - 1+1=k by omega],by omega⟩
    clear he g;have R:=a.size;have z:=l.2.2;generalize hq:zaY r k=q at d z;have F:=hI hq;clear hq;have L:Hid (∀ t,(some (wr.heap.size+1,0):Option Addr)=some t->∀ j u,[Value.int .i64 (S k).who,int i64 (S k).ln,int i64 (S k).len,int i64 (S k).hei][j]?=some u->((wr.alloc (.cells #[(S k).who,(S k).ln,(S k).len,(S k).hei] 220)).alloc (.cells #[(S k).who,(S k).ln,(S k).len,(S k).hei] 220)).cell? (t.add j)=some u):=by
     intro t e
     cases e
     exact Jo (by simpa using Jb (wr.alloc _) _)
    go_wp2_with (first|(at_builtin;refine zv _ rfl _ _ 141 rfl _ 220 T _ 4 32 underlying141 U C D E rfl (by decide) _ q _ (by rfl) ((d.alloc _).alloc _) _ 1 1 _ rfl (λh=>(by cases h)) rfl L (by intro u I;simp at I;rcases I with rfl|rfl|rfl|rfl <;> rfl) (by unfold maxLen;omega) (by omega) (by simp;omega) ?_;intro v' w3 B A))
    go_roundw
    case rel =>
     refine⟨k+1,by omega,by go_num,?_,(zk (zk a _) _).grown A (by simp;omega) (λj Q=>(d.lt j Q).1)⟩
     obtain⟨m,f,_⟩:=l;rw[m,F.out,zaw];rw[F.out] at f;rw[f];exact B
    case measure=>simp[intOf];omega
  ·obtain rfl:k=n:=by omega
   have l:Hid (zaY r k=_):=Je (by omega)
   rw[l.out] at d;go_wp2;go_ret;exact⟨⟨_,rfl,d⟩,a⟩
theorem l7Do_a (g base N R k i z T:Nat)(Q P O:Option Addr)(leg who:Int)(p:Qh)(x:Off)(L C A B D E:Nat->Value)(w:World)(hq:w.heap[g]?=some (.cells #[.slice Q N i,.slice P N z,.slice O R T] 38 (0,0)))(f:zF w base (.slice Q N i) (.slice P N z) (.slice O R T) N N R x L C A B D E)(hN:N<=1048576)(hk:zW x.sa leg N=k)(c:k<N)(b4:qm (x.sa k) (x.ld k))(r:Nat)(hr:r<(x.ld k).stn)(hx:Qc (x.ld k).st r=who)(K:∀ j,j<(x.ld k).stn->j≠r->Qc (x.ld k).st j≠who) :
  Calls prog 92 #[.pointer (some ⟨g,0,none⟩),.agg #[int i64 leg,int i64 0,.bool true,int i64 who,int i64 p.pe,int i64 p.len,int i64 p.hei,int i64 p.cl,.bool p.all,int i64 p.be]] w λe w'=>zfW g base N R k i z T Q P O ⟨leg,0,true,who,p⟩ x L C E w e w':=by
 obtain⟨gl,rfl,d5,a1⟩:=qh f.ld.row (by omega)
 have HO:=hI f;have HK:=hI hk;have M:=hI b4;have b7:Hid (base<=w.heap.size):=by show base<=w.heap.size;omega
 have HQ:=hI hq;have H:=hI f.sa.at;obtain⟨cs,b3⟩:=zA f.ld.row gl rfl;obtain⟨S,U,eA,m1,m2,m3⟩:=zp (f.ld.st k c);obtain⟨a6,b1,eB,m4,m5,m6⟩:=zp (f.ld.ro k c);obtain⟨a7,b2,eD,m7,m8,m9⟩:=zp (f.ld.se k c);have a5:Hid (w.ownsRow base 220 4 (.slice S (x.ld k).stn U) (x.ld k).stn (zy (x.ld k).st (x.ld k).stn)):=by show w.ownsRow _ _ _ _ _ _;rw[← eA];exact f.ld.st k c
 have d2:Hid (w.ownsRow base 228 4 (.slice a6 (x.ld k).ron b1) (x.ld k).ron (zw (x.ld k).ro (x.ld k).ron)):=by show w.ownsRow _ _ _ _ _ _;rw[← eB];exact f.ld.ro k c
 have d3:Hid (w.ownsRow base 234 2 (.slice a7 (x.ld k).sen b2) (x.ld k).sen (zB (x.ld k).se (x.ld k).sen)):=by show w.ownsRow _ _ _ _ _ _;rw[← eD];exact f.ld.se k c
 have a2:Hid (w.cell? ⟨gl,k*3,none⟩=some (.slice S (x.ld k).stn U)):=by
  have h:=zs f.ld.row (k*3+0) (by omega) rfl
  rw[zC 3 _ k 0 (by decide)] at h
  rw[← eA];exact h
 have a3:Hid (w.cell? ⟨gl,k*3+1,none⟩=some (.slice a6 (x.ld k).ron b1)):=by
  have h:=zs f.ld.row (k*3+1) (by omega) rfl
  rw[zC 3 _ k 1 (by decide)] at h
  rw[← eB];exact h
 have a4:Hid (w.cell? ⟨gl,k*3+2,none⟩=some (.slice a7 (x.ld k).sen b2)):=by
  have h:=zs f.ld.row (k*3+2) (by omega) rfl
  rw[zC 3 _ k 2 (by decide)] at h
  rw[← eD];exact h
 have d0:Hid (_/\_/\_):=⟨m3,m6,m9⟩;obtain⟨s,F⟩:∃ s,s=x.sa k:=⟨_,rfl⟩;obtain⟨l,a0⟩:∃ l,l=x.ld k:=⟨_,rfl⟩;rw[← a0] at a5 d2 d3 a2 a3 a4 d0 M;rw[← F] at M;have d7:=hI F;have t:=hI a0;have c9:=hI b3;obtain⟨d,so,la,lc,ca,cc,rfl,f0,f1,f2,f3,f4,f5,f6,f7,Y,V,b6,b5⟩:=H.out k c;rw[← F] at f0 f1 f2 f3 f4 f5 f6 f7 Y V b6 b5;have d6:Hid (_/\_):=⟨Y,V⟩;have b9:Hid (∀ W,Below _ w W->_/\_/\_/\_/\_/\_/\_/\_):=λW J=>by
  have b:=Ja w _ f0;exact⟨(J.cell b).trans f0,(J.cell (p:=⟨d,_+1,_⟩) b).trans f1,(J.cell (p:=⟨d,_+2,_⟩) b).trans f2,(J.cell (p:=⟨d,_+3,_⟩) b).trans f3,(J.cell (p:=⟨d,_+4,_⟩) b).trans f4,(J.cell (p:=⟨d,_+5,_⟩) b).trans f5,(J.cell (p:=⟨d,_+6,_⟩) b).trans f6,(J.cell (p:=⟨d,_+7,_⟩) b).trans f7⟩
 clear f0 f1 f2 f3 f4 f5 f6 f7 Y V b6 b5 F a0 b3 eA eB eD m1 m2 m3 m4 m5 m6 m7 m8 m9 b4 hk d5;have i1:(0:Int)<=(k:Int):=by omega
 have i2:(k:Int)<(N:Int):=by omega
 have m:Below _ w (w.alloc (.cells #[int i64 leg,int i64 0,.bool true,int i64 who,int i64 p.pe,int i64 p.len,int i64 p.hei,int i64 p.cl,.bool p.all,int i64 p.be] 159)):=zk bZ _;have b0:=Jb w (.cells #[int i64 leg,int i64 0,.bool true,int i64 who,int i64 p.pe,int i64 p.len,int i64 p.hei,int i64 p.cl,.bool p.all,int i64 p.be] 159);go_enter func92,ntmps92;go_upto_region 1 with fail;generalize (w.alloc _)=W at m b0 ⊢;have z0:∀ G:zn W,G.val.cell? _=some (.slice _ N i):=λG=>za (zb HQ.out (ze m G.bel)) 0 _ rfl
 have z1:∀ G:zn W,G.val.cell? _=some (.int _ leg):=λG=>za (zb b0 G.bel) 0 _ rfl
 refine zh (by kernel_rfl) (by kernel_rfl) ?_
 repeat(first|go_big_quiet_skip|(go_big_quiet_want;go_big_quiet_op;first|go_big_quiet_on|(apply Jg;refine⟨λG=>?_,?_⟩;(focus(first|(go_at_call 161;refine zf (v:=int i64 (k:Int)) ((Q9 _ N i _ leg _ hN (H.out.below (ze m G.bel))).mono ?_);rintro e w2 ⟨he,d4⟩;refine⟨?_,d4⟩;rw[HK.out] at he;rcases he with⟨_,rfl⟩|⟨h,_⟩;rfl;omega)));go_big_quiet_on)))
 refine Jl ?_;rintro _ ⟨G,rfl⟩;clear z0 z1;have q:=ze m G.bel;have I:=zb b0 G.bel;obtain⟨c0,c1,c2,c3,c4,c5,c6,c7⟩:=b9.out _ q;have y0:=za (zb HQ.out q) 0 _ rfl;have y1:∀ o,(G.val.alloc o).cell? _=some (.slice _ N z):=λo=>za (zb HQ.out (zk q o)) 1 _ rfl
 have y4:∀ o,(G.val.alloc o).cell? _=some (.int _ _):=λo=>za (zd I o) 4 _ rfl
 have y5:∀ o,(G.val.alloc o).cell? _=some (.int _ _):=λo=>za (zd I o) 5 _ rfl
 have y6:∀ o,(G.val.alloc o).cell? _=some (.int _ _):=λo=>za (zd I o) 6 _ rfl
 have y7:∀ o,(G.val.alloc o).cell? _=some (.int _ _):=λo=>za (zd I o) 7 _ rfl
 have y8:∀ o,(G.val.alloc o).cell? _=some (.bool _):=λo=>za (zd I o) 8 _ rfl
 have y9:∀ o,(G.val.alloc o).cell? _=some (.int _ _):=λo=>za (zd I o) 9 _ rfl
 go_upto_region 8 with fail;have a:Below _ w ((G.val.alloc (.cells #[int i64 s.id,.string s.fr,.string s.dst,int i64 s.dep,int i64 s.arr,.slice la s.la.n lc,.slice ca s.ca.n cc,int i64 s.most] 140)).alloc (.cells #[int i64 p.pe,int i64 p.len,int i64 p.hei,int i64 p.cl,.bool p.all,int i64 p.be] 45)):=zk (zk q _) _;have y:=zd (zd I (.cells #[int i64 s.id,.string s.fr,.string s.dst,int i64 s.dep,int i64 s.arr,.slice la s.la.n lc,.slice ca s.ca.n cc,int i64 s.most] 140)) (.cells #[int i64 p.pe,int i64 p.len,int i64 p.hei,int i64 p.cl,.bool p.all,int i64 p.be] 45);have a9:=zd (Jb G.val (.cells #[int i64 s.id,.string s.fr,.string s.dst,int i64 s.dep,int i64 s.arr,.slice la s.la.n lc,.slice ca s.ca.n cc,int i64 s.most] 140)) (.cells #[int i64 p.pe,int i64 p.len,int i64 p.hei,int i64 p.cl,.bool p.all,int i64 p.be] 45);have a8:=zfT G.val (.cells #[int i64 s.id,.string s.fr,.string s.dst,int i64 s.dep,int i64 s.arr,.slice la s.la.n lc,.slice ca s.ca.n cc,int i64 s.most] 140) (.cells #[int i64 p.pe,int i64 p.len,int i64 p.hei,int i64 p.cl,.bool p.all,int i64 p.be] 45);generalize hx0:(G.val.alloc _).alloc _=X at a y a9 a8 ⊢;generalize hsb:G.val.heap.size=sb at a9 a8 ⊢;clear c0 c1 c2 c3 c4 c5 c6 c7 y0 y1 y4 y5 y6 y7 y8 y9 I q m b0 hx0 hsb G W;have w1:=za y 1 _ rfl;have w2:=za y 2 _ rfl;have w3:=za y 3 _ rfl;have L0:=(a.cell a1).trans a2.out;have L1:=(a.cell a1).trans a3.out;have L2:=(a.cell a1).trans a4.out;have bG:=zb c9.out a;have HR:Hid (r<l.stn/\Qc l.st r=who/\∀ j,j<l.stn->j≠r->Qc l.st j≠who):=by rw[t.out];exact⟨hr,hx,K⟩
 clear hr hx K;have b8:Hid (∀ Z,_->Calls _ 165 _ Z λe w5=>(∃ av cv,e=.returned (.slice av _ cv)/\Hid (w5.ownsRow _ 220 4 (.slice av _ cv) _ _))/\Below _ X w5):=λZ hZ=>by
  have hd:=(QO _ _ _).1 M.out.1;refine(zjh S _ U r _ who Z hd.2.1 HR.out.1 HR.out.2.1 HR.out.2.2 ((zbK a5.out).below (ze a hZ))).mono ?_;rintro e w5 ⟨⟨u,rfl,o1⟩,n⟩;obtain⟨av,cv,rfl,_⟩:=zp o1;exact⟨⟨av,cv,rfl,zu o1 hZ.size⟩,ze hZ n⟩
 go_upto_region 9 with fail;clear w1 w2 L1 L2;go_region_law (first
  | (go_simp;go_at_call 165;(with_reducible refine Jm (b8.out _ ?_) ?_);(focus(repeat(first | exact bZ | refine Jh ?_ | refine zk ?_ _)));rintro e w5 ⟨⟨av,cv,rfl,d1⟩,n⟩;have q0:=(n.cell (zM bG)).trans L0;have q1:=zg (zb bG n) (k*3);dsimp only))
 all_goals
  have HF:Hid _:=doSt (v:=⟨leg,0,_,who,p⟩) HO.out HQ.out b7.out (ze a n) (zu d1.out a.size) (by rw[t.out];exact .noStay r rfl rfl (by rw[← t.out];exact HR.out.1) (by rw[← t.out];exact HR.out.2.1))
  go_wp2;go_ret;exact HF.out
theorem l7Do_b (g base N R k H M a4:Nat)(a0 Z Y:Option Addr)(leg who:Int)(p:Qh)(x:Off)(L C A B D E:Nat->Value)(w:World)(hq:w.heap[g]?=some (.cells #[(a0,N,H),(Z,N,M),(Y,R,a4)] 38 (0,0)))(z:zF w base (a0,N,H) (Z,N,M) (Y,R,a4) N N R x L C A B D E)(hN:N<=1048576)(hk:zW x.sa leg N=k)(n:k<N)(d4:qm (x.sa k) (x.ld k))(r:Nat)(hr:r<(x.ld k).ron)(hx:ZV (x.ld k).ro r=who)(T:∀ j,j<(x.ld k).ron->j≠r->ZV (x.ld k).ro j≠who) :
  Calls prog 92 #[.pointer (some (g,0)),.agg #[leg,int i64 1,.bool true,who,p.pe,p.len,p.hei,p.cl,p.all,p.be]] w λe w'=>zfW g base N R k H M a4 a0 Z Y ⟨leg,1,true,who,p⟩ x L C E w e w':=by
 obtain⟨j0,ji,f8,f9,g0⟩:=info_parts Tryz.infoRoom;obtain⟨gl,rfl,e6,a8⟩:=qh z.ld.row (by omega)
 have HO:=hI z;have HK:=hI hk;have U:=hI d4;have d7:Hid (base<=w.heap.size):=by show base<=w.heap.size;omega
 have HQ:=hI hq;have P:=hI z.sa.at;obtain⟨cs,d3⟩:=zA z.ld.row gl rfl;obtain⟨b8,d2,eA,m1,m2,m3⟩:=zp (z.ld.st k n);obtain⟨b6,d0,eB,m4,m5,m6⟩:=zp (z.ld.ro k n);obtain⟨b7,d1,eD,m7,m8,m9⟩:=zp (z.ld.se k n);have e4:Hid (w.ownsRow base 220 4 (b8,(x.ld k).stn,d2) (x.ld k).stn (zy (x.ld k).st (x.ld k).stn)):=by show w.ownsRow _ _ _ _ _ _;rw[← eA];exact z.ld.st k n
 have b5:Hid (w.ownsRow base 228 4 (b6,(x.ld k).ron,d0) (x.ld k).ron (zw (x.ld k).ro (x.ld k).ron)):=by show w.ownsRow _ _ _ _ _ _;rw[← eB];exact z.ld.ro k n
 have e3:Hid (w.ownsRow base 234 2 (b7,(x.ld k).sen,d1) (x.ld k).sen (zB (x.ld k).se (x.ld k).sen)):=by show w.ownsRow _ _ _ _ _ _;rw[← eD];exact z.ld.se k n
 have b1:Hid (w.cell? (gl,k*3)=some (b8,(x.ld k).stn,d2)):=by
  have h:=zs z.ld.row (k*3+0) (by omega) rfl
  rw[zC 3 _ k 0 (by decide)] at h
  rw[← eA];exact h
 have b2:Hid (w.cell? (gl,k*3+1)=some (b6,(x.ld k).ron,d0)):=by
  have h:=zs z.ld.row (k*3+1) (by omega) rfl
  rw[zC 3 _ k 1 (by decide)] at h
  rw[← eB];exact h
 have b3:Hid (w.cell? (gl,k*3+2)=some (b7,(x.ld k).sen,d1)):=by
  have h:=zs z.ld.row (k*3+2) (by omega) rfl
  rw[zC 3 _ k 2 (by decide)] at h
  rw[← eD];exact h
 have e0:Hid (_/\_/\_):=⟨m3,m6,m9⟩;obtain⟨s,O⟩:∃ s,s=x.sa k:=⟨_,rfl⟩;obtain⟨l,a7⟩:∃ l,l=x.ld k:=⟨_,rfl⟩;rw[← a7] at e4 b5 e3 b1 b2 b3 e0 U;rw[← O] at U;have g3:=hI O;have K:=hI a7;have d9:=hI d3;obtain⟨t,so,la,lc,ca,cc,rfl,f0,f1,f2,f3,f4,f5,f6,f7,a6,a5,d6,d5⟩:=P k n;rw[← O] at f0 f1 f2 f3 f4 f5 f6 f7 a6 a5 d6 d5;have g2:Hid (_/\_):=⟨a6,a5⟩;have d8:Hid (∀ W,Below _ w W->_/\_/\_/\_/\_/\_/\_/\_):=λW y=>by
  have m:=Ja w _ f0;exact⟨(y.cell m).trans f0,(y.cell (p:=⟨t,_+1,_⟩) m).trans f1,(y.cell (p:=⟨t,_+2,_⟩) m).trans f2,(y.cell (p:=⟨t,_+3,_⟩) m).trans f3,(y.cell (p:=⟨t,_+4,_⟩) m).trans f4,(y.cell (p:=⟨t,_+5,_⟩) m).trans f5,(y.cell (p:=⟨t,_+6,_⟩) m).trans f6,(y.cell (p:=⟨t,_+7,_⟩) m).trans f7⟩
 clear f0 f1 f2 f3 f4 f5 f6 f7 a6 a5 d6 d5 O a7 d3 eA eB eD m1 m2 m3 m4 m5 m6 m7 m8 m9 d4 hk e6;have i1:(0:Int)<=(k:Int):=by omega
 have i2:(k:Int)<(N:Int):=by omega
 have I:Below _ w (w.alloc (.cells #[leg,int i64 1,.bool true,who,p.pe,p.len,p.hei,p.cl,p.all,p.be] 159)):=zk bZ _;have b0:=Jb w (.cells #[leg,int i64 1,.bool true,who,p.pe,p.len,p.hei,p.cl,p.all,p.be] 159);go_enter func92,ntmps92;go_upto_region 1 with fail;generalize (w.alloc _)=W at I b0 ⊢;have z0:∀ G:zn W,G.val.cell? _=some (.slice _ N H):=λG=>za (zb HQ (ze I G.bel)) 0 _ rfl
 have z1:∀ G:zn W,G.val.cell? _=some (.int _ leg):=λG=>za (zb b0 G.bel) 0 _ rfl
 refine zh (by kernel_rfl) (by kernel_rfl) ?_
 repeat(first|go_big_quiet_skip|(go_big_quiet_want;go_big_quiet_op;first|go_big_quiet_on|(apply Jg;refine⟨λG=>?_,?_⟩;(focus(first|(go_at_call 161;refine zf (v:=int i64 (k:Int)) ((Q9 _ N H _ leg _ hN (P.below (ze I G.bel))).mono ?_);rintro e w2 ⟨S,e5⟩;refine⟨?_,e5⟩;rw[HK.out] at S;rcases S with⟨_,rfl⟩|⟨h,_⟩;rfl;omega)));go_big_quiet_on)))
 refine Jl ?_;rintro _ ⟨G,rfl⟩;clear z0 z1;have J:=ze I G.bel;have Q:=zb b0 G.bel;obtain⟨c0,c1,c2,c3,c4,c5,c6,c7⟩:=d8 _ J;have y0:=za (zb HQ J) 0 _ rfl;have y1:∀ o,(G.val.alloc o).cell? _=some (.slice _ N M):=λo=>za (zb HQ (zk J o)) 1 _ rfl
 have y4:∀ o,(G.val.alloc o).cell? _=some (.int _ _):=λo=>za (zd Q o) 4 _ rfl
 have y5:∀ o,(G.val.alloc o).cell? _=some (.int _ _):=λo=>za (zd Q o) 5 _ rfl
 have y6:∀ o,(G.val.alloc o).cell? _=some (.int _ _):=λo=>za (zd Q o) 6 _ rfl
 have y7:∀ o,(G.val.alloc o).cell? _=some (.int _ _):=λo=>za (zd Q o) 7 _ rfl
 have y8:∀ o,(G.val.alloc o).cell? _=some (.bool _):=λo=>za (zd Q o) 8 _ rfl
 have y9:∀ o,(G.val.alloc o).cell? _=some (.int _ _):=λo=>za (zd Q o) 9 _ rfl
 go_upto_region 8 with fail;have f:Below _ w ((G.val.alloc (.cells (s,la,lc,ca,cc) 140)).alloc (.cells #[p.pe,p.len,p.hei,p.cl,p.all,p.be] 45)):=zk (zk J _) _;have F:=zd (zd Q (.cells (s,la,lc,ca,cc) 140)) (.cells #[p.pe,p.len,p.hei,p.cl,p.all,p.be] 45);have c9:=zd (Jb G.val (.cells (s,la,lc,ca,cc) 140)) (.cells #[p.pe,p.len,p.hei,p.cl,p.all,p.be] 45);have b9:=zfT G.val (.cells (s,la,lc,ca,cc) 140) (.cells #[p.pe,p.len,p.hei,p.cl,p.all,p.be] 45);generalize hx0:(G.val.alloc _).alloc _=X at f F c9 b9 ⊢;generalize hsb:G.val.heap.size=sb at c9 b9 ⊢;clear c0 c1 c2 c3 c4 c5 c6 c7 y0 y1 y4 y5 y6 y7 y8 y9 Q J I b0 hx0 hsb G W;have w1:=za F 1 _ rfl;have w2:=za F 2 _ rfl;have w3:=za F 3 _ rfl;have L0:=(f.cell a8).trans b1;have L1:=(f.cell a8).trans b2;have L2:=(f.cell a8).trans b3;have bG:=zb d9 f;have HR:Hid (r<l.ron/\ZV l.ro r=who/\∀ j,j<l.ron->j≠r->ZV l.ro j≠who):=by rw[K.out];exact⟨hr,hx,T⟩
 clear hr hx T;have g1:=U.2.1.2.1;go_wp2;go_loopw [9,11,106] (λv _ i wr=>∃ q,q<=l.ron/\i=int i64 q/\wr.ownsRow X.heap.size 228 4 v (zaY r q) (zw (Z7 l.ro r) (zaY r q))/\Below X.heap.size X wr) (λ_ _ i _=>l.ron - (intOf i).toNat)
 case atStart=>exact⟨0,Jq _,rfl,⟨rfl,.inl ⟨rfl,rfl⟩⟩,bZ⟩
 case round =>
  obtain⟨q,hq,rfl,d,a⟩:=hrel
  by_cases hlq:q<l.ron
  ·obtain⟨b,off,rfl,h0,h1,h2,h3⟩:=(QR b5).below f q hlq
   have y:=Ja X _ h0;have c0:=(a.cell y).trans h0;have c1:=(a.cell (p:=⟨b,_+1,_⟩) y).trans h1;have c2:=(a.cell (p:=⟨b,_+2,_⟩) y).trans h2;have c3:=(a.cell (p:=⟨b,_+3,_⟩) y).trans h3;clear h0 h1 h2 h3;have y3:∀ o,(wr.alloc o).cell? _=some (.int _ who):=λo=>za (zd (zb F a) o) 3 _ rfl
   by_cases S:q=r
   ·have e1:((l.ro q).who == who)=true:=by rw[S];simpa [ZV] using HR.2.1
    have e2:((l.ro q).who != who)=false:=by rw[S];simpa [ZV] using HR.2.1
    have HC:Hid (zaY r (q+1)=zaY r q):=by
     have a1:zaY r _=q+1 - 1:=Je (by omega)
     have V:zaY r q=q:=Jf (by omega)
     show _=_
     omega
    clear S;go_wp2;go_roundw
    case rel=>exact⟨q+1,by omega,by go_num,by rw[HC.out];exact zo (zk bZ _) d,zk a _⟩
    case measure=>simp[intOf];omega
   ·have a9:=HR.2.2 q hlq S
    have e1:((l.ro q).who == who)=false:=by simpa [ZV] using a9
    have e2:((l.ro q).who != who)=true:=by simpa [ZV] using a9
    have HC:Hid (zaY r (q+1)=zaY r q+1/\Z7 l.ro r (zaY r q)=l.ro q/\zaY r q<=60):=by
     by_cases c:q<=r
     ·have a1:zaY r _=q+1:=Jf (by omega)
      have V:zaY r q=q:=Jf c;have a3:Z7 _ r q=l.ro q:=Jf (by omega)
      rw[a1,V,a3];exact⟨rfl,rfl,by omega⟩
     ·have a1:zaY r _=q+1 - 1:=Je (by omega)
      have V:zaY r q=_:=Je c;have a3:Z7 _ r _=l.ro (q - 1+1):=Je (by omega)
      rw[a1,V,a3];exact⟨by omega,by rw[show q - 1+1=q by omega],by omega⟩
    clear S a9;have g4:=a.size;have e7:=HC.2.2;generalize hqq:zaY r q=qq at d e7;have b4:=hI hqq;clear hqq;have HN:Hid (∀ ad,(some (wr.heap.size+1,0):Option Addr)=some ad->∀ j u,[Value.int .i64 (l.ro q).who,int i64 (l.ro q).cab,int i64 (l.ro q).many,.bool (l.ro q).all][j]?=some u->((wr.alloc (.cells #[(l.ro q).who,(l.ro q).cab,(l.ro q).many,(l.ro q).all] 228)).alloc (.cells #[(l.ro q).who,(l.ro q).cab,(l.ro q).many,(l.ro q).all] 228)).cell? (ad.add j)=some u):=by
     intro ad e
     cases e
     exact Jo (by simpa using Jb (wr.alloc _) _)
    go_wp2_with (first|(at_builtin;refine zv _ rfl _ _ 142 rfl _ 228 j0 _ 4 32 underlying142 ji f8 f9 g0 rfl (by decide) _ qq _ (by rfl) ((d.alloc _).alloc _) _ 1 1 _ rfl (λh=>(by cases h)) rfl HN (by intro u hu;simp at hu;rcases hu with rfl|rfl|rfl|rfl <;> rfl) (by unfold maxLen;omega) (by omega) (by simp;omega) ?_;intro v' g5 e9 e8))
    go_roundw
    case rel =>
     refine⟨q+1,by omega,by go_num,?_,(zk (zk a _) _).grown e8 (by simp;omega) (λj hj=>(d.lt j hj).1)⟩
     obtain⟨a1,V,_⟩:=HC;rw[a1,b4.out,Q6];rw[b4.out] at V;rw[V];exact e9
    case measure=>simp[intOf];omega
  ·obtain rfl:q=l.ron:=by omega
   have HC:Hid (zaY r _=l.ron - 1):=Je (by have:=HR.1;omega)
   rw[HC.out] at d;obtain⟨av,cv,rfl,_⟩:=zp d;have q0:=(a.cell (zM bG)).trans L1;have q1:=zg (zb bG a) (k*3+1);have HF:Hid _:=doRo (v:=⟨leg,1,_,who,p⟩) HO HQ d7 (ze f a) (zu d f.size) (by rw[K.out];exact .noRoom r rfl rfl (by rw[← K.out];exact HR.1) (by rw[← K.out];exact HR.2.1))
   go_wp2;go_ret;exact HF
end Go.Proofs.YtmdnjgihooflfaaGreatDoor

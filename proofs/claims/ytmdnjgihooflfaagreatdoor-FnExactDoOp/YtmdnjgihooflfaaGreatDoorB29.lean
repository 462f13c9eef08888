/-
  OWN TEXT: SpecEk, SpecEn, KitDa, TakeS0, SpecDa, SpecDb, SpecDc.
-/
import Derived.Deep.DeepCutAuto
import Derived.Deep.RegionLawGrows
import Derived.Deep.RegionHeld3
import Derived.Deep.AppendLies
import Derived.Great.Walk
import Derived.Test.YtmdnjgihooflfaaGreatDoorB28
namespace Go.Proofs.YtmdnjgihooflfaaGreatDoor
open Go.RowKit
open Go.Value (int)
open Go.IntKind (i64)
set_option maxHeartbeats 64000000
set_option maxRecDepth 100000
theorem l7End_3 (g base N R X U r s:Nat)(T S p m:Option Addr)(c:Int)(y:OpD)(x:Off)(L C A B D E:Nat->Value)(w:World)(hq:w.heap[g]?=some (.cells #[.slice T N X,.slice S N U,.slice p R r] 38 (0,0)))(ho:zF w base (.slice T N X) (.slice S N U) (.slice p R r) N N R x L C A B D E)(i4:x.bkn=R)(J:base<=w.heap.size)(f1:y.kind=3)(i9:In y.pe 0 20)(k4:y.lgn<=3)(h6:zT w m y.lgn y.lg)(i3:qj m y.lgn s)(h7:0<y.lgn->∀ a,m=some a->a.block<base)(hR:R<30) :
  Calls Tryz.prog 93 #[.pointer (some ⟨g,0,none⟩),int i64 c,.agg #[int i64 y.kind,.string y.own,int i64 y.name,.slice m y.lgn s,int i64 y.pe,int i64 y.len,int i64 y.hei,int i64 y.cl,.bool y.all,int i64 y.be,int i64 y.unt,int i64 y.now]] w fun e w'=>zdm g base N X U T S (fun b=>b=g∨(Value.slice p R r).ownBlock=some b) { x with bkn:=R+1,bk:=zah x.bk R (Qf R c y) } 0 ((R:Int)+1) (zE ⟨y.pe,y.len,y.hei,y.cl,y.all,y.be⟩ (y.lgn:Int)) (fun _ v=>v=.slice none 0 0) L C A B D w e w':=by
 obtain⟨n0,ni,f3,f4,f5⟩:=info_parts Tryz.infoInt;obtain⟨r0,ri,j1,j2,j3⟩:=info_parts Tryz.infoBookingO;rw[f1];have HO:=hI ho;have HQ:=hI hq;have i5:=hI f1;have j8:=hI i4;have f6:=hI J;have i6:=hI h6;have b6:=hI i3;have j7:=hI h7;clear ho hq f1 i4 J h6 i3 h7;obtain⟨l,f2⟩:∃ l,l=zE ⟨y.pe,y.len,y.hei,y.cl,y.all,y.be⟩ (y.lgn:Int):=⟨_,rfl⟩;have g5:=hI f2;have G:Below w.heap.size w ((w.alloc (.cells #[int i64 3,.string y.own,int i64 y.name,.slice m y.lgn s,int i64 y.pe,int i64 y.len,int i64 y.hei,int i64 y.cl,.bool y.all,int i64 y.be,int i64 y.unt,int i64 y.now] 47)).alloc (.cells #[int i64 0,int i64 0,int i64 0,.slice none 0 0] 41)):=zk (zk bZ _) _;have Y:=zd (heap_alloc_new w (.cells #[int i64 3,.string y.own,int i64 y.name,.slice m y.lgn s,int i64 y.pe,int i64 y.len,int i64 y.hei,int i64 y.cl,.bool y.all,int i64 y.be,int i64 y.unt,int i64 y.now] 47)) (.cells #[int i64 0,int i64 0,int i64 0,.slice none 0 0] 41);have bA:=zfT w (.cells #[int i64 3,.string y.own,int i64 y.name,.slice m y.lgn s,int i64 y.pe,int i64 y.len,int i64 y.hei,int i64 y.cl,.bool y.all,int i64 y.be,int i64 y.unt,int i64 y.now] 47) (.cells #[int i64 0,int i64 0,int i64 0,.slice none 0 0] 41);go_enter Tryz.func93,Tryz.ntmps93;go_wp2_with fail;generalize ((w.alloc (.cells #[int i64 3,.string y.own,int i64 y.name,.slice m y.lgn s,int i64 y.pe,int i64 y.len,int i64 y.hei,int i64 y.cl,.bool y.all,int i64 y.be,int i64 y.unt,int i64 y.now] 47)).alloc (.cells #[int i64 0,int i64 0,int i64 0,.slice none 0 0] 41))=W at G Y bA ⊢;refine(Zy y.pe y.len y.hei y.cl y.all y.be (y.lgn:Int) _ i9 (by unfold In;omega)).mono ?_
 rintro e V ⟨rfl,b2⟩;rw[← f2];clear f2;replace G:=ze G b2;replace Y:=zb Y b2;replace bA:=zb bA b2;clear b2 W;have o0:=za Y 0 _ rfl;have j9:((R:Int) == 30)=false:=by simp;omega
 have k0:(R == 30)=false:=by simp;omega
 have k5:IntKind.i64.wrap ((R:Int)+1)=(R:Int)+1:=by rw[IntKind.wrap_i64];omega
 have zq:=za (zb HQ.out G) 2 _ rfl;have b5:Hid (∀ z,Below V.heap.size V z->zT z m y.lgn y.lg):=fun z h=>i6.out.below (ze G h)
 have KS:Hid (∀ z,Below V.heap.size V z->z.cell? ⟨g,2,none⟩=some (.slice p R r)/\z.cell? ⟨w.heap.size,1,none⟩=some (.string y.own)/\z.cell? ⟨w.heap.size,3,none⟩=some (.slice m y.lgn s)/\z.cell? ⟨w.heap.size,4,none⟩=some (int i64 y.pe)/\z.cell? ⟨w.heap.size,5,none⟩=some (int i64 y.len)/\z.cell? ⟨w.heap.size,6,none⟩=some (int i64 y.hei)/\z.cell? ⟨w.heap.size,7,none⟩=some (int i64 y.cl)/\z.cell? ⟨w.heap.size,8,none⟩=some (.bool y.all)/\z.cell? ⟨w.heap.size,9,none⟩=some (int i64 y.be)):=fun z h=>⟨za (zb HQ.out (ze G h)) 2 _ rfl,za (zb Y h) 1 _ rfl,za (zb Y h) 3 _ rfl,za (zb Y h) 4 _ rfl,za (zb Y h) 5 _ rfl,za (zb Y h) 6 _ rfl,za (zb Y h) 7 _ rfl,za (zb Y h) 8 _ rfl,za (zb Y h) 9 _ rfl⟩
 go_upto_region 11 with fail;refine qg 18 19 (fun w'=>w'.cell? ⟨g,2,none⟩=some (.slice p R r)/\w'.cell? ⟨w.heap.size,1,none⟩=some (.string y.own)/\w'.cell? ⟨w.heap.size,3,none⟩=some (.slice m y.lgn s)/\w'.cell? ⟨w.heap.size,4,none⟩=some (int i64 y.pe)/\w'.cell? ⟨w.heap.size,5,none⟩=some (int i64 y.len)/\w'.cell? ⟨w.heap.size,6,none⟩=some (int i64 y.hei)/\w'.cell? ⟨w.heap.size,7,none⟩=some (int i64 y.cl)/\w'.cell? ⟨w.heap.size,8,none⟩=some (.bool y.all)/\w'.cell? ⟨w.heap.size,9,none⟩=some (int i64 y.be)) rfl (by kernel_rfl) (KS.out _ (Below.drew bZ)) (fun hS=>?_)
 simp only[List.replicate_succ,List.replicate_zero]
 (refine tkL 0 (v:=?_) rfl (by kernel_rfl) (fun _ _ _ h=>h) rfl (by assumption) ?_ ?_;rotate_left;(focus(intro w' h;(try dsimp only at h);go_simp;try with_reducible rfl));simp only[Act.put,sB,sZ,sS])
 (refine tkL 1 (v:=?_) rfl (by kernel_rfl) (fun _ _ _ h=>h) rfl (by assumption) ?_ ?_;rotate_left;(focus(intro w' h;(try dsimp only at h);go_simp;try with_reducible rfl));simp only[Act.put,sB,sZ,sS])
 (refine tkL 2 (v:=?_) rfl (by kernel_rfl) (fun _ _ _ h=>h) rfl (by assumption) ?_ ?_;rotate_left;(focus(intro w' h;(try dsimp only at h);go_simp;try with_reducible rfl));simp only[Act.put,sB,sZ,sS])
 (refine tkL 3 (v:=?_) rfl (by kernel_rfl) (fun _ _ _ h=>h) rfl (by assumption) ?_ ?_;rotate_left;(focus(intro w' h;(try dsimp only at h);go_simp;try with_reducible rfl));simp only[Act.put,sB,sZ,sS])
 (refine tkL 4 (v:=?_) rfl (by kernel_rfl) (fun _ _ _ h=>h) rfl (by assumption) ?_ ?_;rotate_left;(focus(intro w' h;(try dsimp only at h);go_simp;try with_reducible rfl));simp only[Act.put,sB,sZ,sS])
 (refine tkL 5 (v:=?_) rfl (by kernel_rfl) (fun _ _ _ h=>h) rfl (by assumption) ?_ ?_;rotate_left;(focus(intro w' h;(try dsimp only at h);go_simp;try with_reducible rfl));simp only[Act.put,sB,sZ,sS])
 (refine tkL 6 (v:=?_) rfl (by kernel_rfl) (fun _ _ _ h=>h) rfl (by assumption) ?_ ?_;rotate_left;(focus(intro w' h;(try dsimp only at h);go_simp;try with_reducible rfl));simp only[Act.put,sB,sZ,sS])
 (refine tkL 7 (v:=?_) rfl (by kernel_rfl) (fun _ _ _ h=>h) rfl (by assumption) ?_ ?_;rotate_left;(focus(intro w' h;(try dsimp only at h);go_simp;try with_reducible rfl));simp only[Act.put,sB,sZ,sS])
 (refine tkL 8 (v:=?_) rfl (by kernel_rfl) (fun _ _ _ h=>h) rfl (by assumption) ?_ ?_;rotate_left;(focus(intro w' h;(try dsimp only at h);go_simp;try with_reducible rfl));simp only[Act.put,sB,sZ,sS])
 (refine tkL 10 (v:=?_) rfl (by kernel_rfl) (fun _ _ _ h=>h) rfl (by assumption) ?_ ?_;rotate_left;(focus(intro w' h;(try dsimp only at h);go_simp;try with_reducible rfl));simp only[Act.put,sB,sZ,sS])
 (refine tkL 11 (v:=?_) rfl (by kernel_rfl) (fun _ _ _ h=>h) rfl (by assumption) ?_ ?_;rotate_left;(focus(intro w' h;(try dsimp only at h);go_simp;try with_reducible rfl));simp only[Act.put,sB,sZ,sS])
 (refine tkL 13 (v:=?_) rfl (by kernel_rfl) (fun _ _ _ h=>h) rfl (by assumption) ?_ ?_;rotate_left;(focus(intro w' h;(try dsimp only at h);go_simp;try with_reducible rfl));simp only[Act.put,sB,sZ,sS])
 (refine tkL 14 (v:=?_) rfl (by kernel_rfl) (fun _ _ _ h=>h) rfl (by assumption) ?_ ?_;rotate_left;(focus(intro w' h;(try dsimp only at h);go_simp;try with_reducible rfl));simp only[Act.put,sB,sZ,sS])
 (refine tkL 15 (v:=?_) rfl (by kernel_rfl) (fun _ _ _ h=>h) rfl (by assumption) ?_ ?_;rotate_left;(focus(intro w' h;(try dsimp only at h);go_simp;try with_reducible rfl));simp only[Act.put,sB,sZ,sS])
 refine zj (rs:=[9,17]) (by kernel_rfl) (by simp) ?_
 refine zc.consL rfl (fun K d=>?_) (zc.consL rfl (fun K d=>?_) zc.nil)
 focus
  go_simp;refine d.out _ _ (KS.out _ (by repeat(first|with_reducible exact f.out|with_reducible exact bZ|with_reducible refine Below.drew ?_|with_reducible refine zk ?_ _))) (fun hS=>?_)
  clear d K;simp only[sZ,sS];refine zj (rs:=[12,17]) (by kernel_rfl) (by simp) ?_
  refine zc.consL rfl (fun K d=>?_) (zc.consL rfl (fun K d=>?_) zc.nil)
  focus
   refine zP (by rfl) (.tmp 53) (.tmp 55) 27 (by rfl) 3 n0 (int i64 0) 1 8 Tryz.underlying27 ni f3 f4 f5 rfl (by decide) V.heap.size _ (by rfl) (by first|exact Nat.le_refl _|omega|(simp;done)|(simp;omega)) (by repeat(first|((with_reducible refine Qa _ _ _ ?_);(first|with_reducible rfl|(simp;done)))|with_reducible refine zK ?_|with_reducible refine zd ?_ _)) m y.lgn s (zS y.lg y.lgn) (by rfl) b6.out.2.2 (by rw[Zn,Nat.mul_one]) (QY (b5.out _ (by repeat(first|exact bZ|refine Below.drew ?_|refine zk ?_ _)))) (Qd _ _) (by unfold maxLen;omega) (by omega) ?_;intro n o u1 P Q O;clear O;have f:Hid (Below V.heap.size V u1):=(by show Below _ _ _;refine ze ?_ (zr P);exact(by repeat(first|exact bZ|refine Below.drew ?_|refine zk ?_ _)));refine d.out _ _ (KS.out _ f.out) (fun hS=>?_)
   clear d K;simp only[Act.put,sB,sZ,sS]
   (refine tkL 16 (v:=?_) rfl (by kernel_rfl) (fun _ _ _ h=>h) rfl (by assumption) ?_ ?_;rotate_left;(focus(intro w' h;(try dsimp only at h);go_simp;try with_reducible rfl));simp only[Act.put,sB,sZ,sS])
   refine zj (rs:=[17]) (by kernel_rfl) (by simp) ?_
   refine zc.consL rfl (fun K d=>?_) zc.nil
   focus
    go_simp;refine d.out _ _ (KS.out _ (by repeat(first|with_reducible exact f.out|with_reducible exact bZ|with_reducible refine Below.drew ?_|with_reducible refine zk ?_ _))) (fun hS=>?_)
    clear d K;simp only[sZ,sS];refine zj (rs:=[18]) (by kernel_rfl) (by simp) ?_
    refine zc.lastL rfl (fun K d=>?_)
    go_simp;refine d.out _ _ ?_;clear d K;refine zX (by kernel_rfl) ?_ _
    have k:=heap_alloc_new u1 (.cells #[int i64 ((R:Int)+1),int i64 c,.string y.own,.slice n y.lgn o,int i64 y.pe,int i64 y.len,int i64 y.hei,int i64 y.cl,.bool y.all,int i64 y.be,int i64 2,int i64 0,int i64 l] 150);have H:=zk f.out (.cells #[int i64 ((R:Int)+1),int i64 c,.string y.own,.slice n y.lgn o,int i64 y.pe,int i64 y.len,int i64 y.hei,int i64 y.cl,.bool y.all,int i64 y.be,int i64 2,int i64 0,int i64 l] 150);have M:Hid _:=zo (zk bZ (.cells #[int i64 ((R:Int)+1),int i64 c,.string y.own,.slice n y.lgn o,int i64 y.pe,int i64 y.len,int i64 y.hei,int i64 y.cl,.bool y.all,int i64 y.be,int i64 2,int i64 0,int i64 l] 150)) Q;generalize u1.alloc (.cells #[int i64 ((R:Int)+1),int i64 c,.string y.own,.slice n y.lgn o,int i64 y.pe,int i64 y.len,int i64 y.hei,int i64 y.cl,.bool y.all,int i64 y.be,int i64 2,int i64 0,int i64 l] 150)=F at k H M ⊢;have Z:V.heap.size<=u1.heap.size:=f.out.size;generalize u1.heap.size=bb at k Z ⊢
  rotate_left 1
  focus
   go_simp;refine d.out _ _ (KS.out _ (by repeat(first|with_reducible exact f.out|with_reducible exact bZ|with_reducible refine Below.drew ?_|with_reducible refine zk ?_ _))) (fun hS=>?_)
   clear d K;simp only[sZ,sS];refine zj (rs:=[12]) (by kernel_rfl) (by simp) ?_
   refine zc.consL rfl (fun K d=>?_) zc.nil
   focus
    refine zP (by rfl) (.tmp 53) (.tmp 55) 27 (by rfl) 3 n0 (int i64 0) 1 8 Tryz.underlying27 ni f3 f4 f5 rfl (by decide) V.heap.size _ (by rfl) (by first|exact Nat.le_refl _|omega|(simp;done)|(simp;omega)) (by repeat(first|((with_reducible refine Qa _ _ _ ?_);(first|with_reducible rfl|(simp;done)))|with_reducible refine zK ?_|with_reducible refine zd ?_ _)) m y.lgn s (zS y.lg y.lgn) (by rfl) b6.out.2.2 (by rw[Zn,Nat.mul_one]) (QY (b5.out _ (by repeat(first|exact bZ|refine Below.drew ?_|refine zk ?_ _)))) (Qd _ _) (by unfold maxLen;omega) (by omega) ?_;intro n o u1 P Q O;clear O;have f:Hid (Below V.heap.size V u1):=(by show Below _ _ _;refine ze ?_ (zr P);exact(by repeat(first|exact bZ|refine Below.drew ?_|refine zk ?_ _)));refine d.out _ _ (KS.out _ f.out) (fun hS=>?_)
    clear d K;simp only[Act.put,sB,sZ,sS]
    (refine tkL 16 (v:=?_) rfl (by kernel_rfl) (fun _ _ _ h=>h) rfl (by assumption) ?_ ?_;rotate_left;(focus(intro w' h;(try dsimp only at h);go_simp;try with_reducible rfl));simp only[Act.put,sB,sZ,sS])
    have I:u1.heap[V.heap.size+1]?=some (.cells #[int i64 0,int i64 0,.string ⟨#[]⟩,.slice none 0 0,int i64 0,int i64 0,int i64 0,int i64 0,.bool false,int i64 0,int i64 0,int i64 0,int i64 0] 150 (0,0)):=zb (by repeat(first|((with_reducible refine Qa _ _ _ ?_);(first|with_reducible rfl|(simp;done)))|with_reducible refine zK ?_|with_reducible refine zd ?_ _)) (zr P)
    obtain⟨d7,d8,d9,e4,e5,e6,e7,e8,e9,f0,a4,a5,a6⟩:=zeX I;obtain⟨b8,b9,c9,d0,d1,d2,d3,d4,d5,d6,a1,a2,a3⟩:=fe13 I;refine zj (rs:=[18]) (by kernel_rfl) (by simp) ?_
    refine zc.lastL rfl (fun K d=>?_)
    go_simp;refine d.out _ _ ?_;clear d K;refine zX (by kernel_rfl) ?_ _
    have k:=zev I (int i64 ((R:Int)+1)) (int i64 c) (.string y.own) (.slice n y.lgn o) (int i64 y.pe) (int i64 y.len) (int i64 y.hei) (int i64 y.cl) (.bool y.all) (int i64 y.be) (int i64 2) (int i64 0) (int i64 l);have H:=zew f.out (b:=V.heap.size+1) (by omega) (int i64 ((R:Int)+1)) (int i64 c) (.string y.own) (.slice n y.lgn o) (int i64 y.pe) (int i64 y.len) (int i64 y.hei) (int i64 y.cl) (.bool y.all) (int i64 y.be) (int i64 2) (int i64 0) (int i64 l)
    have M:Hid _:=(zdl u1 (V.heap.size+1) (int i64 ((R:Int)+1)) (int i64 c) (.string y.own) (.slice n y.lgn o) (int i64 y.pe) (int i64 y.len) (int i64 y.hei) (int i64 y.cl) (.bool y.all) (int i64 y.be) (int i64 2) (int i64 0) (int i64 l)).own Q (zQ Q I (by decide))
    clear I d7 b8 d8 b9 d9 c9 e4 d0 e5 d1 e6 d2 e7 d3 e8 d4 e9 d5 f0 d6 a4 a1 a5 a2 a6 a3;generalize (((((((((((((u1.setCell ⟨V.heap.size+1,0,none⟩ (int i64 ((R:Int)+1))).setCell ⟨V.heap.size+1,1,none⟩ (int i64 c)).setCell ⟨V.heap.size+1,2,none⟩ (.string y.own)).setCell ⟨V.heap.size+1,3,none⟩ (.slice n y.lgn o)).setCell ⟨V.heap.size+1,4,none⟩ (int i64 y.pe)).setCell ⟨V.heap.size+1,5,none⟩ (int i64 y.len)).setCell ⟨V.heap.size+1,6,none⟩ (int i64 y.hei)).setCell ⟨V.heap.size+1,7,none⟩ (int i64 y.cl)).setCell ⟨V.heap.size+1,8,none⟩ (.bool y.all)).setCell ⟨V.heap.size+1,9,none⟩ (int i64 y.be)).setCell ⟨V.heap.size+1,10,none⟩ (int i64 2)).setCell ⟨V.heap.size+1,11,none⟩ (int i64 0)).setCell ⟨V.heap.size+1,12,none⟩ (int i64 l))=F at k H M ⊢;have Z:V.heap.size<=V.heap.size+1:=(by omega)
    generalize V.heap.size+1=bb at k Z ⊢
 rotate_left 2
 focus
  go_simp;refine d.out _ _ (KS.out _ (by repeat(first|with_reducible exact f.out|with_reducible exact bZ|with_reducible refine Below.drew ?_|with_reducible refine zk ?_ _))) (fun hS=>?_)
  clear d K;simp only[sZ,sS];refine zj (rs:=[9]) (by kernel_rfl) (by simp) ?_
  refine zc.consL rfl (fun K d=>?_) zc.nil
  focus
   go_simp;refine d.out _ _ (KS.out _ (by repeat(first|with_reducible exact f.out|with_reducible exact bZ|with_reducible refine Below.drew ?_|with_reducible refine zk ?_ _))) (fun hS=>?_)
   clear d K;simp only[sZ,sS];refine zj (rs:=[12]) (by kernel_rfl) (by simp) ?_
   refine zc.consL rfl (fun K d=>?_) zc.nil
   focus
    refine zP (by rfl) (.tmp 53) (.tmp 55) 27 (by rfl) 3 n0 (int i64 0) 1 8 Tryz.underlying27 ni f3 f4 f5 rfl (by decide) V.heap.size _ (by rfl) (by first|exact Nat.le_refl _|omega|(simp;done)|(simp;omega)) (by repeat(first|((with_reducible refine Qa _ _ _ ?_);(first|with_reducible rfl|(simp;done)))|with_reducible refine zK ?_|with_reducible refine zd ?_ _)) m y.lgn s (zS y.lg y.lgn) (by rfl) b6.out.2.2 (by rw[Zn,Nat.mul_one]) (QY (b5.out _ (by repeat(first|exact bZ|refine Below.drew ?_|refine zk ?_ _)))) (Qd _ _) (by unfold maxLen;omega) (by omega) ?_;intro n o u1 P Q O;clear O;have f:Hid (Below V.heap.size V u1):=(by show Below _ _ _;refine ze ?_ (zr P);exact(by repeat(first|exact bZ|refine Below.drew ?_|refine zk ?_ _)));refine d.out _ _ (KS.out _ f.out) (fun hS=>?_)
    clear d K;simp only[Act.put,sB,sZ,sS]
    (refine tkL 16 (v:=?_) rfl (by kernel_rfl) (fun _ _ _ h=>h) rfl (by assumption) ?_ ?_;rotate_left;(focus(intro w' h;(try dsimp only at h);go_simp;try with_reducible rfl));simp only[Act.put,sB,sZ,sS])
    have I:u1.heap[V.heap.size]?=some (.cells #[int i64 0,int i64 0,.string ⟨#[]⟩,.slice none 0 0,int i64 0,int i64 0,int i64 0,int i64 0,.bool false,int i64 0,int i64 0,int i64 0,int i64 0] 150 (0,0)):=zb (by repeat(first|((with_reducible refine Qa _ _ _ ?_);(first|with_reducible rfl|(simp;done)))|with_reducible refine zK ?_|with_reducible refine zd ?_ _)) (zr P)
    obtain⟨d7,d8,d9,e4,e5,e6,e7,e8,e9,f0,a4,a5,a6⟩:=zeX I;obtain⟨b8,b9,c9,d0,d1,d2,d3,d4,d5,d6,a1,a2,a3⟩:=fe13 I;refine zj (rs:=[18]) (by kernel_rfl) (by simp) ?_
    refine zc.lastL rfl (fun K d=>?_)
    go_simp;refine d.out _ _ ?_;clear d K;refine zX (by kernel_rfl) ?_ _
    have k:=zev I (int i64 ((R:Int)+1)) (int i64 c) (.string y.own) (.slice n y.lgn o) (int i64 y.pe) (int i64 y.len) (int i64 y.hei) (int i64 y.cl) (.bool y.all) (int i64 y.be) (int i64 2) (int i64 0) (int i64 l);have H:=zew f.out (b:=V.heap.size) (by omega) (int i64 ((R:Int)+1)) (int i64 c) (.string y.own) (.slice n y.lgn o) (int i64 y.pe) (int i64 y.len) (int i64 y.hei) (int i64 y.cl) (.bool y.all) (int i64 y.be) (int i64 2) (int i64 0) (int i64 l)
    have M:Hid _:=(zdl u1 (V.heap.size) (int i64 ((R:Int)+1)) (int i64 c) (.string y.own) (.slice n y.lgn o) (int i64 y.pe) (int i64 y.len) (int i64 y.hei) (int i64 y.cl) (.bool y.all) (int i64 y.be) (int i64 2) (int i64 0) (int i64 l)).own Q (zQ Q I (by decide))
    clear I d7 b8 d8 b9 d9 c9 e4 d0 e5 d1 e6 d2 e7 d3 e8 d4 e9 d5 f0 d6 a4 a1 a5 a2 a6 a3;generalize (((((((((((((u1.setCell ⟨V.heap.size,0,none⟩ (int i64 ((R:Int)+1))).setCell ⟨V.heap.size,1,none⟩ (int i64 c)).setCell ⟨V.heap.size,2,none⟩ (.string y.own)).setCell ⟨V.heap.size,3,none⟩ (.slice n y.lgn o)).setCell ⟨V.heap.size,4,none⟩ (int i64 y.pe)).setCell ⟨V.heap.size,5,none⟩ (int i64 y.len)).setCell ⟨V.heap.size,6,none⟩ (int i64 y.hei)).setCell ⟨V.heap.size,7,none⟩ (int i64 y.cl)).setCell ⟨V.heap.size,8,none⟩ (.bool y.all)).setCell ⟨V.heap.size,9,none⟩ (int i64 y.be)).setCell ⟨V.heap.size,10,none⟩ (int i64 2)).setCell ⟨V.heap.size,11,none⟩ (int i64 0)).setCell ⟨V.heap.size,12,none⟩ (int i64 l))=F at k H M ⊢;obtain⟨bb,h5⟩:∃ bb,bb=V.heap.size:=⟨_,rfl⟩;rw[← h5] at k ⊢;have Z:V.heap.size<=bb:=by omega
    clear h5
 all_goals
  clear hS P Q f;have J:=ze G H;have b0:=zb Y H;have a8:=zb bA H;have o0:=za b0 0 _ rfl;have k1:w.heap.size+1<V.heap.size:=zM bA;have g7:=za k 10 _ rfl;have g8:=za k 11 _ rfl;have g9:=zg k 10;have h0:=zg k 11;go_upto_region 15 with fail;have a9:=k;have b1:=H;have g6:=hI M.out;generalize F=F2 at a9 b1 g6 k H M J b0 a8 o0 g7 g8 g9 h0 ⊢;clear g7 g8 g9 h0 o0;clear k H M J b0 a8;have J:=ze G b1;have b0:=zb Y b1;have a8:=zb bA b1;have qF:=zb HQ.out J;have k2:g<w.heap.size:=zM HQ.out;have b7:Hid (∀ z:World,z.heap[g]?=some (.cells #[.slice T N X,.slice S N U,.slice p R r] 38 (0,0))->z.heap[bb]?=some (.cells #[int i64 ((R:Int)+1),int i64 c,.string y.own,.slice n y.lgn o,int i64 y.pe,int i64 y.len,int i64 y.hei,int i64 y.cl,.bool y.all,int i64 y.be,int i64 2,int i64 0,int i64 l] 150 (0,0))->z.cell? ⟨g,2,none⟩=some (.slice p R r)/\z.cell? ⟨bb,0,none⟩=some (int i64 ((R:Int)+1))/\z.cell? ⟨bb,1,none⟩=some (int i64 c)/\z.cell? ⟨bb,2,none⟩=some (.string y.own)/\z.cell? ⟨bb,3,none⟩=some (.slice n y.lgn o)/\z.cell? ⟨bb,4,none⟩=some (int i64 y.pe)/\z.cell? ⟨bb,5,none⟩=some (int i64 y.len)/\z.cell? ⟨bb,6,none⟩=some (int i64 y.hei)/\z.cell? ⟨bb,7,none⟩=some (int i64 y.cl)/\z.cell? ⟨bb,8,none⟩=some (.bool y.all)/\z.cell? ⟨bb,9,none⟩=some (int i64 y.be)/\z.cell? ⟨bb,10,none⟩=some (int i64 2)/\z.cell? ⟨bb,11,none⟩=some (int i64 0)/\z.cell? ⟨bb,12,none⟩=some (int i64 l)):=fun z h1 h2=>⟨za h1 2 _ rfl,za h2 0 _ rfl,za h2 1 _ rfl,za h2 2 _ rfl,za h2 3 _ rfl,za h2 4 _ rfl,za h2 5 _ rfl,za h2 6 _ rfl,za h2 7 _ rfl,za h2 8 _ rfl,za h2 9 _ rfl,za h2 10 _ rfl,za h2 11 _ rfl,za h2 12 _ rfl⟩
  refine qg 10 11 (fun w'=>w'.cell? ⟨g,2,none⟩=some (.slice p R r)/\w'.cell? ⟨bb,0,none⟩=some (int i64 ((R:Int)+1))/\w'.cell? ⟨bb,1,none⟩=some (int i64 c)/\w'.cell? ⟨bb,2,none⟩=some (.string y.own)/\w'.cell? ⟨bb,3,none⟩=some (.slice n y.lgn o)/\w'.cell? ⟨bb,4,none⟩=some (int i64 y.pe)/\w'.cell? ⟨bb,5,none⟩=some (int i64 y.len)/\w'.cell? ⟨bb,6,none⟩=some (int i64 y.hei)/\w'.cell? ⟨bb,7,none⟩=some (int i64 y.cl)/\w'.cell? ⟨bb,8,none⟩=some (.bool y.all)/\w'.cell? ⟨bb,9,none⟩=some (int i64 y.be)/\w'.cell? ⟨bb,10,none⟩=some (int i64 2)/\w'.cell? ⟨bb,11,none⟩=some (int i64 0)/\w'.cell? ⟨bb,12,none⟩=some (int i64 l)) rfl (by kernel_rfl) (b7.out _ qF a9) (fun hS=>?_)
  simp only[List.replicate_succ,List.replicate_zero]
  (refine tkL 0 (v:=?_) rfl (by kernel_rfl) (fun _ _ _ h=>h) rfl (by assumption) ?_ ?_;rotate_left;(focus(intro w' h;(try dsimp only at h);go_simp;try with_reducible rfl));simp only[Act.put,sB,sZ,sS])
  (refine tkL 1 (v:=?_) rfl (by kernel_rfl) (fun _ _ _ h=>h) rfl (by assumption) ?_ ?_;rotate_left;(focus(intro w' h;(try dsimp only at h);go_simp;try with_reducible rfl));simp only[Act.put,sB,sZ,sS])
  (refine tkL 2 (v:=?_) rfl (by kernel_rfl) (fun _ _ _ h=>h) rfl (by assumption) ?_ ?_;rotate_left;(focus(intro w' h;(try dsimp only at h);go_simp;try with_reducible rfl));simp only[Act.put,sB,sZ,sS])
  (refine tkL 3 (v:=?_) rfl (by kernel_rfl) (fun _ _ _ h=>h) rfl (by assumption) ?_ ?_;rotate_left;(focus(intro w' h;(try dsimp only at h);go_simp;try with_reducible rfl));simp only[Act.put,sB,sZ,sS])
  (refine tkL 4 (v:=?_) rfl (by kernel_rfl) (fun _ _ _ h=>h) rfl (by assumption) ?_ ?_;rotate_left;(focus(intro w' h;(try dsimp only at h);go_simp;try with_reducible rfl));simp only[Act.put,sB,sZ,sS])
  (refine tkL 5 (v:=?_) rfl (by kernel_rfl) (fun _ _ _ h=>h) rfl (by assumption) ?_ ?_;rotate_left;(focus(intro w' h;(try dsimp only at h);go_simp;try with_reducible rfl));simp only[Act.put,sB,sZ,sS])
  refine zj (rs:=[6]) (by kernel_rfl) (by simp) ?_
  refine zc.consL rfl (fun K d=>?_) zc.nil
  refine zdk (by rfl) 36 150 1 #[(0,.tmp 73)] (by rfl) Tryz.underlying36 #[int i64 ((R:Int)+1),int i64 c,.string y.own,.slice n y.lgn o,int i64 y.pe,int i64 y.len,int i64 y.hei,int i64 y.cl,.bool y.all,int i64 y.be,int i64 2,int i64 0,int i64 l] (Eq.trans (congrArg (Program.builtSlice Tryz.prog 150 1) (show _=[(0,Value.agg #[int i64 ((R:Int)+1),int i64 c,.string y.own,.slice n y.lgn o,int i64 y.pe,int i64 y.len,int i64 y.hei,int i64 y.cl,.bool y.all,int i64 y.be,int i64 2,int i64 0,int i64 l])] from by first|(simp[go_sem];done)|rfl|kernel_rfl)) (zeO ((R:Int)+1) c y.pe y.len y.hei y.cl y.be 2 0 l y.own y.all n y.lgn o)) ?_
  refine d.out _ _ (b7.out _ (zd qF _) (zd a9 _)) (fun hS=>?_)
  clear d K;simp only[Act.put,sB,sZ,sS];have j6:F2.drew.heap.size=F2.heap.size:=rfl;refine zj (rs:=[7]) (by kernel_rfl) (by simp) ?_
  refine zc.consL rfl (fun K d=>?_) zc.nil
  have a0:Hid (zF (F2.drew.alloc (.cells #[int i64 ((R:Int)+1),int i64 c,.string y.own,.slice n y.lgn o,int i64 y.pe,int i64 y.len,int i64 y.hei,int i64 y.cl,.bool y.all,int i64 y.be,int i64 2,int i64 0,int i64 l] 150)) base (.slice T N X) (.slice S N U) (.slice p R r) N N R x L C A B D E):=HO.out.below (zk (Below.drew J) _);refine step_append_lies _ (by rfl) (.tmp 72) (.tmp 74) 36 (by rfl) base 150 r0 (.agg #[int i64 0,int i64 0,.string ⟨#[]⟩,.slice none 0 0,int i64 0,int i64 0,int i64 0,int i64 0,.bool false,int i64 0,int i64 0,int i64 0,int i64 0]) 13 128 Tryz.underlying36 ri j1 j2 j3 rfl (by decide) _ R (zbg x.bk E R) (by rfl) a0.out.bk.row _ 1 1 [int i64 ((R:Int)+1),int i64 c,.string y.own,.slice n y.lgn o,int i64 y.pe,int i64 y.len,int i64 y.hei,int i64 y.cl,.bool y.all,int i64 y.be,int i64 2,int i64 0,int i64 l] (by rfl) (by rfl) (World.news_of_block (cs:=#[int i64 ((R:Int)+1),int i64 c,.string y.own,.slice n y.lgn o,int i64 y.pe,int i64 y.len,int i64 y.hei,int i64 y.cl,.bool y.all,int i64 y.be,int i64 2,int i64 0,int i64 l]) (t:=150) (fr:=(0,0)) (heap_alloc_new F2.drew _)) (by intro u hu;simp at hu;rcases hu with rfl|rfl|rfl|rfl|rfl|rfl|rfl|rfl|rfl|rfl|rfl|rfl|rfl <;> rfl) (by decide) (by unfold maxLen;omega) (by omega) (by have:=f6.out;have:=J.size;simp;omega) _ rfl ?_
  intro g2 q u2 i0 a7 j4 j5;have qU:=(qJ a7).blk (zd (zK qF) (.cells #[int i64 ((R:Int)+1),int i64 c,.string y.own,.slice n y.lgn o,int i64 y.pe,int i64 y.len,int i64 y.hei,int i64 y.cl,.bool y.all,int i64 y.be,int i64 2,int i64 0,int i64 l] 150)) (fun e=>by obtain⟨cs,e2⟩:=zA a0.out.bk.row g e;rw[zd (zK qF) (.cells #[int i64 ((R:Int)+1),int i64 c,.string y.own,.slice n y.lgn o,int i64 y.pe,int i64 y.len,int i64 y.hei,int i64 y.cl,.bool y.all,int i64 y.be,int i64 2,int i64 0,int i64 l] 150)] at e2;simp at e2)
  have bU:=(qJ a7).blk (zd (zK a9) (.cells #[int i64 ((R:Int)+1),int i64 c,.string y.own,.slice n y.lgn o,int i64 y.pe,int i64 y.len,int i64 y.hei,int i64 y.cl,.bool y.all,int i64 y.be,int i64 2,int i64 0,int i64 l] 150)) (fun e=>by have h1:=(HO.out.bk.row.lt bb e).2;have:=G.size;omega)
  have aU:=(qJ a7).blk (zd (zK a8) (.cells #[int i64 ((R:Int)+1),int i64 c,.string y.own,.slice n y.lgn o,int i64 y.pe,int i64 y.len,int i64 y.hei,int i64 y.cl,.bool y.all,int i64 y.be,int i64 2,int i64 0,int i64 l] 150)) (fun e=>by have h1:=(HO.out.bk.row.lt _ e).2;omega)
  refine d.out _ _ (b7.out _ qU bU) (fun hS=>?_)
  clear d K;simp only[Act.put,sB,sZ,sS]
  (refine tkL 8 (v:=?_) rfl (by kernel_rfl) (fun _ _ _ h=>h) rfl (by assumption) ?_ ?_;rotate_left;(focus(intro w' h;(try dsimp only at h);go_simp;try with_reducible rfl));simp only[Act.put,sB,sZ,sS])
  (refine tkL 9 (v:=?_) rfl (by kernel_rfl) (fun _ _ _ h=>h) rfl (by assumption) ?_ ?_;rotate_left;(focus(intro w' h;(try dsimp only at h);go_simp;try with_reducible rfl));simp only[Act.put,sB,sZ,sS])
  have q0:=za qU 2 _ rfl;have j0:=zg qU 2;refine zj (rs:=[10]) (by kernel_rfl) (by simp) ?_
  refine zc.lastL rfl (fun K d=>?_)
  go_simp;refine d.out _ _ ?_;clear d K;refine zX (by kernel_rfl) ?_ _
  have qG:=zlK qU (.slice (some ⟨g2,0,none⟩) (R+1) q);have bG:=zD (b':=g) bU 2 (.slice (some ⟨g2,0,none⟩) (R+1) q) (by omega)
  have aG:=zD (b':=g) aU 2 (.slice (some ⟨g2,0,none⟩) (R+1) q) (by omega)
  have g1:Hid (Qf R c y=⟨(R:Int)+1,c,y.own,y.lgn,y.lg,y.pe,y.len,y.hei,y.cl,y.all,y.be,2,0,l⟩):=by show _=_;unfold Qf;rw[i5.out,← g5.out];rfl
  have i8:Hid (zF (F2.drew.alloc (.cells #[int i64 ((R:Int)+1),int i64 c,.string y.own,.slice n y.lgn o,int i64 y.pe,int i64 y.len,int i64 y.hei,int i64 y.cl,.bool y.all,int i64 y.be,int i64 2,int i64 0,int i64 l] 150)) base (.slice T N X) (.slice S N U) (.slice p R r) N N R { x with bkn:=R+1,bk:=zah x.bk R (Qf R c y) } L C A B D E):=⟨a0.out.sa,a0.out.ld,a0.out.bk.congr (fun i hi=>(zaf _ _ _ (by omega)).symm)⟩
  have i7:Hid (zF u2 base (.slice T N X) (.slice S N U) (.slice (some ⟨g2,0,none⟩) (R+1) q) N N (R+1) { x with bkn:=R+1,bk:=zah x.bk R (Qf R c y) } L C A B D (atV E R (.slice n y.lgn o))):=by
   refine i8.out.book (lim:=V.heap.size) (fun i hi b e=>by have h1:=((HO.out.bk.legs i hi).lt b e).2;have:=G.size;omega) ?_ (Nat.le_trans f6.out G.size) a7 ?_
   ·dsimp only
    rw[ZL,g1.out];exact zo (zk (Below.drew bZ) _) g6.out
   ·have e1:zbg (zah x.bk R (Qf R c y)) E R=zbg x.bk E R:=List.map_congr_left fun j hj=>by
     have k3:j<R*13:=by simpa using hj
     unfold zZ bkC;rw[zaf _ _ _ (by omega)]
    dsimp only;rw[e1];unfold bkC;rw[ZL,qu,g1.out];exact i0
  have b3:zx u2 (u2.setCell ⟨g,2,none⟩ (.slice (some ⟨g2,0,none⟩) (R+1) q)) (fun b=>b=g):=(zx.refl u2 (fun b=>b=g)).set (a:=⟨g,2,none⟩) rfl _
  have g4:Hid _:=i7.out.box b3 qU (by decide)
  have g0:Hid (zx w (u2.setCell ⟨g,2,none⟩ (.slice (some ⟨g2,0,none⟩) (R+1) q)) (fun b=>b=g∨(Value.slice p R r).ownBlock=some b)):=((zx.of_below (zk (Below.drew J) _)).trans ((qJ a7).mono (fun b e=>.inr e))).trans (b3.mono (fun b e=>.inl e))
  have c0:=za bG 0 _ rfl;generalize u2.setCell ⟨g,2,none⟩ (.slice (some ⟨g2,0,none⟩) (R+1) q)=Z1 at qG bG aG b3 g4 g0 c0 ⊢;obtain⟨g3,h4,f9,bF⟩:=zbC g0.out g4.out qG aG (by omega) (int i64 0) (int i64 ((R:Int)+1)) (int i64 l) (.slice none 0 0) rfl
  obtain⟨v0,v1,v2,v3⟩:=ce4 aG;obtain⟨e0,e1,e2,e3⟩:=fe4 aG;have b4:Hid _:=g3;have f8:Hid _:=h4;have f7:Hid _:=f9;clear g3 h4 f9;clear q0 j0 hS b3 i0;go_wp2;obtain⟨x0,x1,x2,x3⟩:=ce4 bF;refine bodyPost_ret (v:=.agg #[int i64 0,int i64 ((R:Int)+1),int i64 l,.slice none 0 0]) (by simp[results,Tryz.results93,go_sem,x0,x1,x2,x3]) rfl ?_
  rw[g5.out] at b4 f8 f7 ⊢;exact⟨_,_,_,_,rfl,rfl,b4.out,f8.out,f7.out⟩
def zbR (x:Off)(b:ql)(y:OpD):Int :=
 if y.kind=4 then b.price
 else if y.kind=5 then zE ⟨y.pe,y.len,y.hei,y.cl,y.all,y.be⟩ y.lgn
 else if y.kind=6 then Z6 b.price ((x.sa (zW x.sa (b.lg 0) x.san)).dep - y.now)
 else 0
def zfu (x:Off)(a:Int)(y:OpD)(m:Nat)(b:Off)(code name price:Int):Prop :=
 (y.kind=1/\b=x/\code=0/\name=0/\price=zE ⟨y.pe,y.len,y.hei,y.cl,y.all,y.be⟩ y.lgn) ∨
 (y.kind=9/\b=x/\code=0/\name=0/\price=0) ∨
 ((y.kind=2∨y.kind=3)/\x.bkn=30/\b=x/\code=8/\name=0/\price=0) ∨
 ((y.kind=2∨y.kind=3)/\x.bkn<30/\b={ x with bkn:=x.bkn+1,bk:=zah x.bk x.bkn (Qf x.bkn a y) }/\code=0/\name=(x.bkn:Int)+1/\price=zE ⟨y.pe,y.len,y.hei,y.cl,y.all,y.be⟩ y.lgn) ∨
 (In y.kind 4 8/\m<x.bkn/\b={ x with bk:=zah x.bk m (qx (x.bk m) a y) }/\code=0/\name=y.name/\price=zbR x (x.bk m) y)
def zdA (x:Off)(y:OpD)(base:Nat)(z:World)(v:Value):Prop :=
 (y.kind=9->∃ k,zW x.sa (y.lg 0) x.san=k/\k<x.san/\z.ownsRow base 203 5 v (Qn (x.ld k) x.bk (y.lg 0) x.bkn).length (qW (zeM (Qn (x.ld k) x.bk (y.lg 0) x.bkn)) (Qn (x.ld k) x.bk (y.lg 0) x.bkn).length))/\(y.kind≠9->v=.slice none 0 0)
theorem zdm.mono {g base N l k:Nat}{j i:Option Addr}{T n:Nat->Prop}{o:Off}{code name price:Int}{m f:World->Value->Prop}{L C A B D:Nat->Value}{w:World}{e:Ending}{w':World}(h:zdm g base N l k j i T o code name price m L C A B D w e w')(s:∀ b,T b->n b)(r:∀ v,m w' v->f w' v):zdm g base N l k j i n o code name price f L C A B D w e w':=by
 obtain⟨a,b,c,d,h1,h2,h3,p,q⟩:=h;exact⟨a,b,c,d,h1,r _ h2,h3,p,q.mono s⟩
theorem zjg {y:OpD}(h:zac y):In y.pe 0 20/\y.lgn<=3:=by
 have h1:=h.2.2.2.2.1;have h2:=h.2.2.2.1;unfold qA at h1;unfold qi at h2
 by_cases c:zJ y.kind
 ·rw[if_pos c] at h1 h2
  have:In y.pe 1 20:=h1.1;unfold In at this ⊢
  omega
 ·rw[if_neg c] at h1 h2
  have:y.pe=0:=h1.1;refine⟨by rw[this];unfold In;omega,?_⟩
  split at h2 <;> omega
theorem l7End_any (g base N R n l k r m:Nat)(j f d o:Option Addr)(p:Int)(y:OpD)(x:Off)(L C A B D E:Nat->Value)(w:World)(M:w.heap[g]?=some (.cells #[.slice j N n,.slice f N l,.slice d R k] 38 (0,0)))(K:zF w base (.slice j N n) (.slice f N l) (.slice d R k) N N R x L C A B D E)(q:x.bkn=R)(I:x.san=N)(Z:x.ldn=N)(s:base<=w.heap.size)(t:zT w o y.lgn y.lg)(H:qj o y.lgn r)(F:0<y.lgn->∀ a,o=some a->a.block<base)
  (T:ZZ x y m) (hT:QJ x.san x.sa) (hR:R<=30) (hs:Off.Short x 1048576) (X:∀ i,i<R->zad x.san x.sa (x.bk i).lgn (x.bk i).lg) :
  Calls Tryz.prog 93 #[.pointer (some ⟨g,0,none⟩),int i64 p,.agg #[int i64 y.kind,.string y.own,int i64 y.name,.slice o y.lgn r,int i64 y.pe,int i64 y.len,int i64 y.hei,int i64 y.cl,.bool y.all,int i64 y.be,int i64 y.unt,int i64 y.now]] w fun e w'=>∃ x2 code name price,zfu x p y m x2 code name price/\zdm g base N n l j f (fun b=>b=g∨(Value.slice d R k).ownBlock=some b) x2 code name price (zdA x y w.heap.size) L C A B D w e w':=by
 obtain⟨G,u⟩:=zjg T.1;have hN:N<=6:=by rw[← I];exact hT.1
 have hk:=T.1.1;have nil:∀ z v,y.kind≠9->v=Value.slice none 0 0->zdA x y w.heap.size z v:=fun z v h e=>⟨fun V=>absurd V h,fun _=>e⟩
 by_cases hnamed:In y.kind 4 8
 ·obtain⟨J,O,_⟩:=T.2.2 hnamed
  rw[q] at O;have n9:y.kind≠9:=by unfold In at hnamed;omega
  have fin:∀ {e w' price},price=zbR x (x.bk m) y->zdm g base N n l j f (fun b=>b=g∨(Value.slice d R k).ownBlock=some b) { x with bk:=zah x.bk m (qx (x.bk m) p y) } 0 y.name price (fun _ v=>v=.slice none 0 0) L C A B D w e w' ->
    ∃ x2 code name price,zfu x p y m x2 code name price/\zdm g base N n l j f (fun b=>b=g∨(Value.slice d R k).ownBlock=some b) x2 code name price (zdA x y w.heap.size) L C A B D w e w':=fun hp h =>
   ⟨_,_,_,_,.inr (.inr (.inr (.inr ⟨hnamed,by rw[q];exact O,rfl,rfl,rfl,hp⟩))),h.mono (fun _ h=>h) (fun v h=>nil _ v n9 h)⟩
  have c:y.kind=4∨y.kind=5∨y.kind=6∨y.kind=7∨y.kind=8:=by unfold In at hnamed;omega
  rcases c with c|c|c|c|c
  ·refine(l7End_4 g base N R n l k r m j f d o p y x L C A B D E w M K q s c G u t H F J O (by omega)).mono (fun e w' h=>fin ?_ h)
   unfold zbR;rw[if_pos c]
  ·refine(l7End_5 g base N R n l k r m j f d o p y x L C A B D E w M K q s c G u t H F J O (by omega)).mono (fun e w' h=>fin ?_ h)
   unfold zbR;rw[if_neg (by omega),if_pos c]
  ·have W:=X m O
   have P:=(W.2.2 0 (by have:=W.1;omega)).1
   have S:=(hT.2 _ P).1;have U:=T.1.2.2.2.2.2.2;refine(l7End_6 g base N R n l k r m j f d o p y x L C A B D E w M K q s c G u t H F J O (by omega) (zW x.sa ((x.bk m).lg 0) x.san) (by have:=W.1;omega) (by rw[I]) (by rw[I] at P ⊢;exact P) ?_ (by omega)).mono (fun e w' h=>fin ?_ h)
   ·have h1:0<=(x.sa (zW x.sa ((x.bk m).lg 0) x.san)).dep:=S.2.2.2.2.1
    have h2:(x.sa (zW x.sa ((x.bk m).lg 0) x.san)).dep<(x.sa (zW x.sa ((x.bk m).lg 0) x.san)).arr:=S.2.2.2.2.2.1;have h3:(x.sa (zW x.sa ((x.bk m).lg 0) x.san)).arr<=10000:=S.2.2.2.2.2.2.1;unfold zbW In at U
    omega
   ·unfold zbR;rw[if_neg (by omega),if_neg (by omega),if_pos c]
  ·refine(l7End_7 g base N R n l k r m j f d o p y x L C A B D E w M K q s c G u t H F J O (by omega)).mono (fun e w' h=>fin ?_ h)
   unfold zbR;rw[if_neg (by omega),if_neg (by omega),if_neg (by omega)]
  ·refine(l7End_8 g base N R n l k r m j f d o p y x L C A B D E w M K q s c G u t H F J O (by omega)).mono (fun e w' h=>fin ?_ h)
   unfold zbR;rw[if_neg (by omega),if_neg (by omega),if_neg (by omega)]
 ·have c:y.kind=1∨y.kind=2∨y.kind=3∨y.kind=9:=by unfold In at hnamed hk;omega
  rcases c with c|c|c|c
  ·refine(l7End_1 g base N R n l k r j f d o p y x L C A B D E w M K q s c G u t H F).mono (fun e w' h=>?_)
   exact⟨_,_,_,_,.inl ⟨c,rfl,rfl,rfl,rfl⟩,h.mono (fun _ h=>h.elim) (fun v h=>nil _ v (by omega) h)⟩
  ·by_cases h30:R=30
   ·refine(l7End_2f g base N R n l k r j f d o p y x L C A B D E w M K q s c G u t H F h30).mono (fun e w' h=>?_)
    exact⟨_,_,_,_,.inr (.inr (.inl ⟨.inl c,by omega,rfl,rfl,rfl,rfl⟩)),h.mono (fun _ h=>h.elim) (fun v h=>nil _ v (by omega) h)⟩
   ·refine(l7End_2 g base N R n l k r j f d o p y x L C A B D E w M K q s c G u t H F (by omega)).mono (fun e w' h=>?_)
    subst q;exact⟨_,_,_,_,.inr (.inr (.inr (.inl ⟨.inl c,by omega,rfl,rfl,rfl,rfl⟩))),h.mono (fun _ h=>h) (fun v h=>nil _ v (by omega) h)⟩
  ·by_cases h30:R=30
   ·refine(l7End_3f g base N R n l k r j f d o p y x L C A B D E w M K q s c G u t H F h30).mono (fun e w' h=>?_)
    exact⟨_,_,_,_,.inr (.inr (.inl ⟨.inr c,by omega,rfl,rfl,rfl,rfl⟩)),h.mono (fun _ h=>h.elim) (fun v h=>nil _ v (by omega) h)⟩
   ·refine(l7End_3 g base N R n l k r j f d o p y x L C A B D E w M K q s c G u t H F (by omega)).mono (fun e w' h=>?_)
    subst q;exact⟨_,_,_,_,.inr (.inr (.inr (.inl ⟨.inr c,by omega,rfl,rfl,rfl,rfl⟩))),h.mono (fun _ h=>h) (fun v h=>nil _ v (by omega) h)⟩
  ·have Y:0<y.lgn:=by
    have:=T.1.2.2.2.1;unfold qi at this;rw[if_neg (by unfold zJ;omega),if_pos c] at this
    omega
   have Q:zW x.sa (y.lg 0) x.san<x.san:=by
    have h1:=zcm x.sa (y.lg 0) x.san
    rcases Nat.lt_or_eq_of_le h1 with h|h
    ·exact h
    ·exact absurd (.inr ⟨c,h⟩) T.2.1
   refine(l7End_9 g base N R n l k r j f d o p y x L C A B D E w M K q s c G u t H F (zW x.sa (y.lg 0) x.san) Y (by rw[I]) (by rw[I] at Q ⊢;exact Q) hs I Z (by omega)).mono (fun e w' h=>?_)
   exact⟨_,_,_,_,.inr (.inl ⟨c,rfl,rfl,rfl,rfl⟩),h.mono (fun _ h=>h.elim) (fun v h=>⟨fun _=>⟨_,rfl,Q,h⟩,fun V=>absurd c V⟩)⟩
section
open Go.RowKit
def zfW (g base N R k i c h:Nat)(f a d:Option Addr)(v:Wk)(x:Off)(L C E:Nat->Value)(w:World)(e:Ending)(w':World):Prop :=
 ∃ code y A B D,e=.returned (int i64 code)/\qV (x.sa k) v (x.ld k) code y/\zF w' base (.slice f N i) (.slice a N c) (.slice d R h) N N R { x with ld:=zht x.ld k y } L C A B D E /\
  w'.heap[g]?=some (.cells #[.slice f N i,.slice a N c,.slice d R h] 38 (0,0))/\zx w w' (fun b=>(Value.slice a N c).ownBlock=some b)
section
variable {w z : World} {g gl base N R k csa cld cbk n : Nat} {asa abk : Option Addr} {v : Wk} {x : Off} {L C A B D E : Nat -> Value} {u : Value}
theorem doSt {T:Nat->Zp}(l:zF w base (.slice asa N csa) (.slice (some ⟨gl,0,none⟩) N cld) (.slice abk R cbk) N N R x L C A B D E)(o:w.heap[g]?=some (.cells #[.slice asa N csa,.slice (some ⟨gl,0,none⟩) N cld,.slice abk R cbk] 38 (0,0)))(h:base<=w.heap.size)(f:Below w.heap.size w z)(d:z.ownsRow w.heap.size 220 4 u n (zy T n))(q:qV (x.sa k) v (x.ld k) 0 { x.ld k with stn:=n,st:=T }) :
  zfW g base N R k csa cld cbk asa (some ⟨gl,0,none⟩) abk v x L C E w (.returned (int i64 0)) (z.setCell ⟨gl,k*3,none⟩ u):=by
 obtain⟨cs,c⟩:=zA l.ld.row gl rfl;have j:g≠gl:=fun e=>by subst e;rw[o] at c;simp at c
 have m:zx z (z.setCell ⟨gl,k*3+0,none⟩ u) (fun b=>(Value.slice (some ⟨gl,0,none⟩) N cld).ownBlock=some b):=(zx.refl z (fun b=>(Value.slice (some ⟨gl,0,none⟩) N cld).ownBlock=some b)).set (a:=⟨gl,k*3+0,none⟩) (by rfl) u
 exact⟨0,_,_,_,_,rfl,q,(l.below f).putSt (k:=k) (lim:=w.heap.size) (fun i p b e=>((l.ld.st i p).lt b e).2) d h,m.blk (zb o f) (fun e=>j (by simpa [Value.ownBlock] using e.symm)),(zx.of_below f).trans m⟩
theorem doRo {T:Nat->qN}(l:zF w base (.slice asa N csa) (.slice (some ⟨gl,0,none⟩) N cld) (.slice abk R cbk) N N R x L C A B D E)(o:w.heap[g]?=some (.cells #[.slice asa N csa,.slice (some ⟨gl,0,none⟩) N cld,.slice abk R cbk] 38 (0,0)))(h:base<=w.heap.size)(f:Below w.heap.size w z)(d:z.ownsRow w.heap.size 228 4 u n (zw T n))(q:qV (x.sa k) v (x.ld k) 0 { x.ld k with ron:=n,ro:=T }) :
  zfW g base N R k csa cld cbk asa (some ⟨gl,0,none⟩) abk v x L C E w (.returned (int i64 0)) (z.setCell ⟨gl,k*3+1,none⟩ u):=by
 obtain⟨cs,c⟩:=zA l.ld.row gl rfl;have j:g≠gl:=fun e=>by subst e;rw[o] at c;simp at c
 have m:zx z (z.setCell ⟨gl,k*3+1,none⟩ u) (fun b=>(Value.slice (some ⟨gl,0,none⟩) N cld).ownBlock=some b):=(zx.refl z (fun b=>(Value.slice (some ⟨gl,0,none⟩) N cld).ownBlock=some b)).set (a:=⟨gl,k*3+1,none⟩) (by rfl) u
 exact⟨0,_,_,_,_,rfl,q,(l.below f).putRo (k:=k) (lim:=w.heap.size) (fun i p b e=>((l.ld.ro i p).lt b e).2) d h,m.blk (zb o f) (fun e=>j (by simpa [Value.ownBlock] using e.symm)),(zx.of_below f).trans m⟩
theorem doSe {T:Nat->Qe}(l:zF w base (.slice asa N csa) (.slice (some ⟨gl,0,none⟩) N cld) (.slice abk R cbk) N N R x L C A B D E)(o:w.heap[g]?=some (.cells #[.slice asa N csa,.slice (some ⟨gl,0,none⟩) N cld,.slice abk R cbk] 38 (0,0)))(h:base<=w.heap.size)(f:Below w.heap.size w z)(d:z.ownsRow w.heap.size 234 2 u n (zB T n))(q:qV (x.sa k) v (x.ld k) 0 { x.ld k with sen:=n,se:=T }) :
  zfW g base N R k csa cld cbk asa (some ⟨gl,0,none⟩) abk v x L C E w (.returned (int i64 0)) (z.setCell ⟨gl,k*3+2,none⟩ u):=by
 obtain⟨cs,c⟩:=zA l.ld.row gl rfl;have j:g≠gl:=fun e=>by subst e;rw[o] at c;simp at c
 have m:zx z (z.setCell ⟨gl,k*3+2,none⟩ u) (fun b=>(Value.slice (some ⟨gl,0,none⟩) N cld).ownBlock=some b):=(zx.refl z (fun b=>(Value.slice (some ⟨gl,0,none⟩) N cld).ownBlock=some b)).set (a:=⟨gl,k*3+2,none⟩) (by rfl) u
 exact⟨0,_,_,_,_,rfl,q,(l.below f).putSe (k:=k) (lim:=w.heap.size) (fun i p b e=>((l.ld.se i p).lt b e).2) d h,m.blk (zb o f) (fun e=>j (by simpa [Value.ownBlock] using e.symm)),(zx.of_below f).trans m⟩
theorem doNo {a:Option Addr}{code:Int}(c:zF w base (.slice asa N csa) (.slice a N cld) (.slice abk R cbk) N N R x L C A B D E)(d:w.heap[g]?=some (.cells #[.slice asa N csa,.slice a N cld,.slice abk R cbk] 38 (0,0)))(b:Below w.heap.size w z)(e:qV (x.sa k) v (x.ld k) code (x.ld k)) :
  zfW g base N R k csa cld cbk asa a abk v x L C E w (.returned (int i64 code)) z :=
 ⟨code,_,_,_,_,rfl,e,by rw[setL_same];exact c.below b,zb d b,zx.of_below b⟩
end
end
def zaY (r k:Nat):Nat:=if k<=r then k else k - 1
theorem zjh (bo:Option Addr)(n c r:Nat)(S:Nat->Zp)(x:Int)(w:World)(hn:n<=60)(hr:r<n)(J:Qc S r=x)(H:∀ j,j<n->j≠r->Qc S j≠x)(K:qw w bo n S) :
  Calls Tryz.prog 165 #[.slice bo n c,int i64 x] w fun e w'=>(∃ v,e=.returned v/\w'.ownsRow w.heap.size 220 4 v (n - 1) (zy (Zx S r) (n - 1)))/\Below w.heap.size w w':=by
 obtain⟨T,U,C,D,E⟩:=info_parts Tryz.infoStay;have N:=hI K;have G:=hI J;have M:=hI H;clear K J H;go_enter Tryz.func165,Tryz.ntmps165;go_wp2;go_loopw [5,7,10] (fun v _ i wr=>∃ k:Nat,k<=n/\i=int i64 k/\wr.ownsRow w.heap.size 220 4 v (zaY r k) (zy (Zx S r) (zaY r k))/\Below w.heap.size w wr) (fun _ _ i _=>n - (intOf i).toNat)
 case atStart=>exact⟨0,Nat.zero_le _,rfl,⟨rfl,.inl ⟨rfl,rfl⟩⟩,bZ⟩
 case round =>
  obtain⟨k,hk,rfl,d,a⟩:=hrel
  by_cases hlt:k<n
  ·obtain⟨b,off,rfl,y,h1,h2,h3⟩:=N.out k hlt
   have o:=World.block_lt_of_cell? w _ y;have c0:=(a.cell (p:=⟨b,off+k*4,none⟩) o).trans y;have c1:=(a.cell (p:=⟨b,off+k*4+1,none⟩) o).trans h1;have c2:=(a.cell (p:=⟨b,off+k*4+2,none⟩) o).trans h2;have c3:=(a.cell (p:=⟨b,off+k*4+3,none⟩) o).trans h3;clear y h1 h2 h3
   by_cases he:k=r
   ·have O:((S k).who == x)=true:=by rw[he];simpa [Qc] using G.out
    have P:((S k).who != x)=false:=by rw[he];simpa [Qc] using G.out
    have l:Hid (zaY r (k+1)=zaY r k):=by
     have m:zaY r (k+1)=k+1 - 1:=if_neg (by omega)
     have f:zaY r k=k:=if_pos (by omega)
     show zaY r (k+1)=zaY r k
     omega
    clear he;go_wp2;go_roundw
    case rel=>exact⟨k+1,by omega,by go_num,by rw[l.out];exact zo (zk bZ _) d,zk a _⟩
    case measure=>simp[intOf];omega
   ·have g:=M.out k hlt he
    have O:((S k).who == x)=false:=by simpa [Qc] using g
    have P:((S k).who != x)=true:=by simpa [Qc] using g
    have l:Hid (zaY r (k+1)=zaY r k+1/\Zx S r (zaY r k)=S k/\zaY r k<=60):=by
     by_cases c:k<=r
     ·have m:zaY r (k+1)=k+1:=if_pos (by omega)
      have f:zaY r k=k:=if_pos c;have s:Zx S r k=S k:=if_pos (by omega)
      rw[m,f,s];exact⟨rfl,rfl,by omega⟩
     ·have m:zaY r (k+1)=k+1 - 1:=if_neg (by omega)
      have f:zaY r k=k - 1:=if_neg c;have s:Zx S r (k - 1)=S (k - 1+1):=if_neg (by omega)
      rw[m,f,s];exact⟨by omega,by rw[show k - 1+1=k by omega],by omega⟩
    clear he g;have R:=a.size;have z:=l.out.2.2;generalize hq:zaY r k=q at d z;have F:=hI hq;clear hq;have L:Hid (∀ t,(some ⟨wr.heap.size+1,0,none⟩:Option Addr)=some t->∀ j u,[Value.int .i64 (S k).who,int i64 (S k).ln,int i64 (S k).len,int i64 (S k).hei][j]?=some u->((wr.alloc (.cells #[int i64 (S k).who,int i64 (S k).ln,int i64 (S k).len,int i64 (S k).hei] 220)).alloc (.cells #[int i64 (S k).who,int i64 (S k).ln,int i64 (S k).len,int i64 (S k).hei] 220)).cell? (t.add j)=some u):=by
     intro t e
     cases e
     exact World.news_of_block (by simpa using heap_alloc_new (wr.alloc _) _)
    go_wp2_with (first|(at_builtin;refine zv _ (by rfl) (.tmp 18) (.tmp 20) 141 (by rfl) w.heap.size 220 T (.agg #[int i64 0,int i64 0,int i64 0,int i64 0]) 4 32 Tryz.underlying141 U C D E rfl (by decide) _ q (zy (Zx S r) q) (by rfl) ((d.alloc _).alloc _) (some ⟨wr.heap.size+1,0,none⟩) 1 1 [int i64 (S k).who,int i64 (S k).ln,int i64 (S k).len,int i64 (S k).hei] (by rfl) (fun h=>(by cases h)) (by rfl) L.out (by intro u I;simp at I;rcases I with rfl|rfl|rfl|rfl <;> rfl) (by unfold maxLen;omega) (by omega) (by simp;omega) ?_;intro v' w3 B A))
    go_roundw
    case rel =>
     refine⟨k+1,by omega,by go_num,?_,(zk (zk a _) _).grown A (by simp;omega) (fun j Q=>(d.lt j Q).1)⟩
     obtain⟨m,f,_⟩:=l.out;rw[m,F.out,zaw];rw[F.out] at f;rw[f];exact B
    case measure=>simp[intOf];omega
  ·obtain rfl:k=n:=by omega
   have l:Hid (zaY r k=k - 1):=if_neg (by omega)
   rw[l.out] at d;go_wp2;go_ret;exact⟨⟨_,rfl,d⟩,a⟩
theorem l7Do_a (g base N R k t M a3:Nat)(a2 a1 a0:Option Addr)(leg who:Int)(p:Qh)(x:Off)(L C A B D E:Nat->Value)(w:World)(hq:w.heap[g]?=some (.cells #[.slice a2 N t,.slice a1 N M,.slice a0 R a3] 38 (0,0)))(n:zF w base (.slice a2 N t) (.slice a1 N M) (.slice a0 R a3) N N R x L C A B D E)(hN:N<=1048576)(hk:zW x.sa leg N=k)(f:k<N)(b6:qm (x.sa k) (x.ld k))(r:Nat)(hr:r<(x.ld k).stn)(hx:Qc (x.ld k).st r=who)(V:∀ j,j<(x.ld k).stn->j≠r->Qc (x.ld k).st j≠who) :
  Calls Tryz.prog 92 #[.pointer (some ⟨g,0,none⟩),.agg #[int i64 leg,int i64 0,.bool true,int i64 who,int i64 p.pe,int i64 p.len,int i64 p.hei,int i64 p.cl,.bool p.all,int i64 p.be]] w fun e w'=>zfW g base N R k t M a3 a2 a1 a0 ⟨leg,0,true,who,p⟩ x L C E w e w':=by
 obtain⟨q,rfl,d7,a7⟩:=qh n.ld.row (by omega)
 have HO:=hI n;have HK:=hI hk;have Y:=hI b6;have b9:Hid (base<=w.heap.size):=by show base<=w.heap.size;omega
 have HQ:=hI hq;have S:=hI n.sa.at;obtain⟨cs,b5⟩:=zA n.ld.row q rfl;obtain⟨i,m,eA,m1,m2,m3⟩:=zp (n.ld.st k f);obtain⟨I,O,eB,m4,m5,m6⟩:=zp (n.ld.ro k f);obtain⟨J,P,eD,m7,m8,m9⟩:=zp (n.ld.se k f);have b2:Hid (w.ownsRow base 220 4 (.slice i (x.ld k).stn m) (x.ld k).stn (zy (x.ld k).st (x.ld k).stn)):=by show w.ownsRow _ _ _ _ _ _;rw[← eA];exact n.ld.st k f
 have d4:Hid (w.ownsRow base 228 4 (.slice I (x.ld k).ron O) (x.ld k).ron (zw (x.ld k).ro (x.ld k).ron)):=by show w.ownsRow _ _ _ _ _ _;rw[← eB];exact n.ld.ro k f
 have d5:Hid (w.ownsRow base 234 2 (.slice J (x.ld k).sen P) (x.ld k).sen (zB (x.ld k).se (x.ld k).sen)):=by show w.ownsRow _ _ _ _ _ _;rw[← eD];exact n.ld.se k f
 have a8:Hid (w.cell? ⟨q,k*3,none⟩=some (.slice i (x.ld k).stn m)):=by
  have h:=zs n.ld.row (k*3+0) (by omega) rfl
  rw[zC 3 _ k 0 (by decide)] at h
  rw[← eA];exact h
 have a9:Hid (w.cell? ⟨q,k*3+1,none⟩=some (.slice I (x.ld k).ron O)):=by
  have h:=zs n.ld.row (k*3+1) (by omega) rfl
  rw[zC 3 _ k 1 (by decide)] at h
  rw[← eB];exact h
 have b1:Hid (w.cell? ⟨q,k*3+2,none⟩=some (.slice J (x.ld k).sen P)):=by
  have h:=zs n.ld.row (k*3+2) (by omega) rfl
  rw[zC 3 _ k 2 (by decide)] at h
  rw[← eD];exact h
 have d2:Hid ((i=none->(x.ld k).stn=0/\m=0)/\(I=none->(x.ld k).ron=0/\O=0)/\(J=none->(x.ld k).sen=0/\P=0)):=⟨m3,m6,m9⟩;obtain⟨s,Q⟩:∃ s,s=x.sa k:=⟨_,rfl⟩;obtain⟨l,a6⟩:∃ l,l=x.ld k:=⟨_,rfl⟩;rw[← a6] at b2 d4 d5 a8 a9 b1 d2 Y;rw[← Q] at Y;have d9:=hI Q;have H:=hI a6;have d1:=hI b5;obtain⟨a,d,la,lc,ca,cc,rfl,f0,f1,f2,f3,f4,f5,f6,f7,a5,a4,b8,b7⟩:=S.out k f;rw[← Q] at f0 f1 f2 f3 f4 f5 f6 f7 a5 a4 b8 b7;have d8:Hid (zG w la s.la/\zG w ca s.ca):=⟨a5,a4⟩;have d0:Hid (∀ W,Below w.heap.size w W->W.cell? ⟨a,d+k*8,none⟩=some (int i64 s.id)/\W.cell? ⟨a,d+k*8+1,none⟩=some (.string s.fr)/\W.cell? ⟨a,d+k*8+2,none⟩=some (.string s.dst)/\W.cell? ⟨a,d+k*8+3,none⟩=some (int i64 s.dep)/\W.cell? ⟨a,d+k*8+4,none⟩=some (int i64 s.arr)/\W.cell? ⟨a,d+k*8+5,none⟩=some (.slice la s.la.n lc)/\W.cell? ⟨a,d+k*8+6,none⟩=some (.slice ca s.ca.n cc)/\W.cell? ⟨a,d+k*8+7,none⟩=some (int i64 s.most)):=fun W U=>by
  have c:=World.block_lt_of_cell? w _ f0;exact⟨(U.cell (p:=⟨a,d+k*8,none⟩) c).trans f0,(U.cell (p:=⟨a,d+k*8+1,none⟩) c).trans f1,(U.cell (p:=⟨a,d+k*8+2,none⟩) c).trans f2,(U.cell (p:=⟨a,d+k*8+3,none⟩) c).trans f3,(U.cell (p:=⟨a,d+k*8+4,none⟩) c).trans f4,(U.cell (p:=⟨a,d+k*8+5,none⟩) c).trans f5,(U.cell (p:=⟨a,d+k*8+6,none⟩) c).trans f6,(U.cell (p:=⟨a,d+k*8+7,none⟩) c).trans f7⟩
 clear f0 f1 f2 f3 f4 f5 f6 f7 a5 a4 b8 b7 Q a6 b5 eA eB eD m1 m2 m3 m4 m5 m6 m7 m8 m9 b6 hk d7;have i1:(0:Int)<=(k:Int):=by omega
 have i2:(k:Int)<(N:Int):=by omega
 have y:Below w.heap.size w (w.alloc (.cells #[int i64 leg,int i64 0,.bool true,int i64 who,int i64 p.pe,int i64 p.len,int i64 p.hei,int i64 p.cl,.bool p.all,int i64 p.be] 159)):=zk bZ _;have b0:=heap_alloc_new w (.cells #[int i64 leg,int i64 0,.bool true,int i64 who,int i64 p.pe,int i64 p.len,int i64 p.hei,int i64 p.cl,.bool p.all,int i64 p.be] 159);go_enter Tryz.func92,Tryz.ntmps92;go_upto_region 1 with fail;generalize (w.alloc (.cells #[int i64 leg,int i64 0,.bool true,int i64 who,int i64 p.pe,int i64 p.len,int i64 p.hei,int i64 p.cl,.bool p.all,int i64 p.be] 159))=W at y b0 ⊢;have z0:∀ G:zn W,G.val.cell? ⟨g,0,none⟩=some (.slice (some ⟨a,d,none⟩) N t):=fun G=>za (zb HQ.out (ze y G.bel)) 0 _ rfl
 have z1:∀ G:zn W,G.val.cell? ⟨w.heap.size,0,none⟩=some (int i64 leg):=fun G=>za (zb b0 G.bel) 0 _ rfl
 refine zh (by kernel_rfl) (by kernel_rfl) ?_
 repeat(first|go_big_quiet_skip|(go_big_quiet_want;go_big_quiet_op;first|go_big_quiet_on|(apply Exists.intro;refine⟨fun G=>?_,?_⟩;(focus(first|(go_at_call 161;refine zf (v:=int i64 (k:Int)) ((Q9 _ N t x.sa leg _ hN (S.out.below (ze y G.bel))).mono ?_);rintro e w2 ⟨he,d6⟩;refine⟨?_,d6⟩;rw[HK.out] at he;rcases he with⟨_,rfl⟩|⟨h,_⟩;rfl;omega)));go_big_quiet_on)))
 refine wpQuiet_nil ?_;rintro _ ⟨G,rfl⟩;clear z0 z1;have F:=ze y G.bel;have T:=zb b0 G.bel;obtain⟨c0,c1,c2,c3,c4,c5,c6,c7⟩:=d0.out G.val F;have y0:=za (zb HQ.out F) 0 _ rfl;have y1:∀ o,(G.val.alloc o).cell? ⟨g,1,none⟩=some (.slice (some ⟨q,0,none⟩) N M):=fun o=>za (zb HQ.out (zk F o)) 1 _ rfl
 have y4:∀ o,(G.val.alloc o).cell? ⟨w.heap.size,4,none⟩=some (int i64 p.pe):=fun o=>za (zd T o) 4 _ rfl
 have y5:∀ o,(G.val.alloc o).cell? ⟨w.heap.size,5,none⟩=some (int i64 p.len):=fun o=>za (zd T o) 5 _ rfl
 have y6:∀ o,(G.val.alloc o).cell? ⟨w.heap.size,6,none⟩=some (int i64 p.hei):=fun o=>za (zd T o) 6 _ rfl
 have y7:∀ o,(G.val.alloc o).cell? ⟨w.heap.size,7,none⟩=some (int i64 p.cl):=fun o=>za (zd T o) 7 _ rfl
 have y8:∀ o,(G.val.alloc o).cell? ⟨w.heap.size,8,none⟩=some (.bool p.all):=fun o=>za (zd T o) 8 _ rfl
 have y9:∀ o,(G.val.alloc o).cell? ⟨w.heap.size,9,none⟩=some (int i64 p.be):=fun o=>za (zd T o) 9 _ rfl
 go_upto_region 8 with fail;have b:Below w.heap.size w ((G.val.alloc (.cells #[int i64 s.id,.string s.fr,.string s.dst,int i64 s.dep,int i64 s.arr,.slice la s.la.n lc,.slice ca s.ca.n cc,int i64 s.most] 140)).alloc (.cells #[int i64 p.pe,int i64 p.len,int i64 p.hei,int i64 p.cl,.bool p.all,int i64 p.be] 45)):=zk (zk F _) _;have K:=zd (zd T (.cells #[int i64 s.id,.string s.fr,.string s.dst,int i64 s.dep,int i64 s.arr,.slice la s.la.n lc,.slice ca s.ca.n cc,int i64 s.most] 140)) (.cells #[int i64 p.pe,int i64 p.len,int i64 p.hei,int i64 p.cl,.bool p.all,int i64 p.be] 45);have b4:=zd (heap_alloc_new G.val (.cells #[int i64 s.id,.string s.fr,.string s.dst,int i64 s.dep,int i64 s.arr,.slice la s.la.n lc,.slice ca s.ca.n cc,int i64 s.most] 140)) (.cells #[int i64 p.pe,int i64 p.len,int i64 p.hei,int i64 p.cl,.bool p.all,int i64 p.be] 45);have b3:=zfT G.val (.cells #[int i64 s.id,.string s.fr,.string s.dst,int i64 s.dep,int i64 s.arr,.slice la s.la.n lc,.slice ca s.ca.n cc,int i64 s.most] 140) (.cells #[int i64 p.pe,int i64 p.len,int i64 p.hei,int i64 p.cl,.bool p.all,int i64 p.be] 45);generalize hx0:(G.val.alloc (.cells #[int i64 s.id,.string s.fr,.string s.dst,int i64 s.dep,int i64 s.arr,.slice la s.la.n lc,.slice ca s.ca.n cc,int i64 s.most] 140)).alloc (.cells #[int i64 p.pe,int i64 p.len,int i64 p.hei,int i64 p.cl,.bool p.all,int i64 p.be] 45)=X at b K b4 b3 ⊢;generalize hsb:G.val.heap.size=sb at b4 b3 ⊢;clear c0 c1 c2 c3 c4 c5 c6 c7 y0 y1 y4 y5 y6 y7 y8 y9 T F y b0 hx0 hsb G W;have w1:=za K 1 _ rfl;have w2:=za K 2 _ rfl;have w3:=za K 3 _ rfl;have L0:X.cell? ⟨q,k*3,none⟩=some (.slice i l.stn m):=(b.cell (p:=⟨q,k*3,none⟩) a7).trans a8.out;have L1:X.cell? ⟨q,k*3+1,none⟩=some (.slice I l.ron O):=(b.cell (p:=⟨q,k*3+1,none⟩) a7).trans a9.out;have L2:X.cell? ⟨q,k*3+2,none⟩=some (.slice J l.sen P):=(b.cell (p:=⟨q,k*3+2,none⟩) a7).trans b1.out;have bG:=zb d1.out b;have HR:Hid (r<l.stn/\Qc l.st r=who/\∀ j,j<l.stn->j≠r->Qc l.st j≠who):=by rw[H.out];exact⟨hr,hx,V⟩
 clear hr hx V;have c9:Hid (∀ Z,Below X.heap.size X Z->Calls Tryz.prog 165 #[.slice i l.stn m,int i64 who] Z fun e w5=>(∃ av cv,e=.returned (.slice av (l.stn - 1) cv)/\Hid (w5.ownsRow X.heap.size 220 4 (.slice av (l.stn - 1) cv) (l.stn - 1) (zy (Zx l.st r) (l.stn - 1))))/\Below X.heap.size X w5):=fun Z hZ=>by
  have hd:=(QO _ _ _).1 Y.out.1;refine(zjh i l.stn m r l.st who Z hd.2.1 HR.out.1 HR.out.2.1 HR.out.2.2 ((zbK b2.out).below (ze b hZ))).mono ?_;rintro e w5 ⟨⟨u,rfl,o1⟩,z⟩;obtain⟨av,cv,rfl,_⟩:=zp o1;exact⟨⟨av,cv,rfl,zu o1 hZ.size⟩,ze hZ z⟩
 go_upto_region 9 with fail;clear w1 w2 L1 L2;go_region_law (first
  | (go_simp;go_at_call 165;(with_reducible refine Calls.mono (c9.out _ ?_) ?_);(focus(repeat(first | exact bZ | refine Below.drew ?_ | refine zk ?_ _)));rintro e w5 ⟨⟨av,cv,rfl,d3⟩,z⟩;have q0:=(z.cell (p:=⟨q,k*3,none⟩) (zM bG)).trans L0;have q1:=zg (zb bG z) (k*3);dsimp only))
 all_goals
  have HF:Hid _:=doSt (k:=k) (v:=⟨leg,0,true,who,p⟩) HO.out HQ.out b9.out (ze b z) (zu d3.out b.size) (by rw[H.out];exact .noStay r rfl rfl (by rw[← H.out];exact HR.out.1) (by rw[← H.out];exact HR.out.2.1))
  go_wp2;go_ret;exact HF.out
theorem l7Do_b (g base N R k J T a9:Nat)(a8 a7 a6:Option Addr)(leg who:Int)(p:Qh)(x:Off)(L C A B D E:Nat->Value)(w:World)(hq:w.heap[g]?=some (.cells #[.slice a8 N J,.slice a7 N T,.slice a6 R a9] 38 (0,0)))(F:zF w base (.slice a8 N J) (.slice a7 N T) (.slice a6 R a9) N N R x L C A B D E)(hN:N<=1048576)(hk:zW x.sa leg N=k)(y:k<N)(d3:qm (x.sa k) (x.ld k))(r:Nat)(hr:r<(x.ld k).ron)(hx:ZV (x.ld k).ro r=who)(a4:∀ j,j<(x.ld k).ron->j≠r->ZV (x.ld k).ro j≠who) :
  Calls Tryz.prog 92 #[.pointer (some ⟨g,0,none⟩),.agg #[int i64 leg,int i64 1,.bool true,int i64 who,int i64 p.pe,int i64 p.len,int i64 p.hei,int i64 p.cl,.bool p.all,int i64 p.be]] w fun e w'=>zfW g base N R k J T a9 a8 a7 a6 ⟨leg,1,true,who,p⟩ x L C E w e w':=by
 obtain⟨j0,ji,e9,f8,f9⟩:=info_parts Tryz.infoRoom;obtain⟨H,rfl,e5,b4⟩:=qh F.ld.row (by omega)
 have HO:=hI F;have HK:=hI hk;have a5:=hI d3;have d6:Hid (base<=w.heap.size):=by show base<=w.heap.size;omega
 have HQ:=hI hq;have a0:=hI F.sa.at;obtain⟨cs,d2⟩:=zA F.ld.row H rfl;obtain⟨S,Y,eA,m1,m2,m3⟩:=zp (F.ld.st k y);obtain⟨P,U,eB,m4,m5,m6⟩:=zp (F.ld.ro k y);obtain⟨Q,V,eD,m7,m8,m9⟩:=zp (F.ld.se k y);have e3:Hid (w.ownsRow base 220 4 (.slice S (x.ld k).stn Y) (x.ld k).stn (zy (x.ld k).st (x.ld k).stn)):=by show w.ownsRow _ _ _ _ _ _;rw[← eA];exact F.ld.st k y
 have c9:Hid (w.ownsRow base 228 4 (.slice P (x.ld k).ron U) (x.ld k).ron (zw (x.ld k).ro (x.ld k).ron)):=by show w.ownsRow _ _ _ _ _ _;rw[← eB];exact F.ld.ro k y
 have e0:Hid (w.ownsRow base 234 2 (.slice Q (x.ld k).sen V) (x.ld k).sen (zB (x.ld k).se (x.ld k).sen)):=by show w.ownsRow _ _ _ _ _ _;rw[← eD];exact F.ld.se k y
 have b6:Hid (w.cell? ⟨H,k*3,none⟩=some (.slice S (x.ld k).stn Y)):=by
  have h:=zs F.ld.row (k*3+0) (by omega) rfl
  rw[zC 3 _ k 0 (by decide)] at h
  rw[← eA];exact h
 have b7:Hid (w.cell? ⟨H,k*3+1,none⟩=some (.slice P (x.ld k).ron U)):=by
  have h:=zs F.ld.row (k*3+1) (by omega) rfl
  rw[zC 3 _ k 1 (by decide)] at h
  rw[← eB];exact h
 have b8:Hid (w.cell? ⟨H,k*3+2,none⟩=some (.slice Q (x.ld k).sen V)):=by
  have h:=zs F.ld.row (k*3+2) (by omega) rfl
  rw[zC 3 _ k 2 (by decide)] at h
  rw[← eD];exact h
 have d9:Hid ((S=none->(x.ld k).stn=0/\Y=0)/\(P=none->(x.ld k).ron=0/\U=0)/\(Q=none->(x.ld k).sen=0/\V=0)):=⟨m3,m6,m9⟩;obtain⟨s,Z⟩:∃ s,s=x.sa k:=⟨_,rfl⟩;obtain⟨l,b3⟩:∃ l,l=x.ld k:=⟨_,rfl⟩;rw[← b3] at e3 c9 e0 b6 b7 b8 d9 a5;rw[← Z] at a5;have g2:=hI Z;have O:=hI b3;have d8:=hI d2;obtain⟨d,t,la,lc,ca,cc,rfl,f0,f1,f2,f3,f4,f5,f6,f7,b2,b1,d5,d4⟩:=a0.out k y;rw[← Z] at f0 f1 f2 f3 f4 f5 f6 f7 b2 b1 d5 d4;have g1:Hid (zG w la s.la/\zG w ca s.ca):=⟨b2,b1⟩;have d7:Hid (∀ W,Below w.heap.size w W->W.cell? ⟨d,t+k*8,none⟩=some (int i64 s.id)/\W.cell? ⟨d,t+k*8+1,none⟩=some (.string s.fr)/\W.cell? ⟨d,t+k*8+2,none⟩=some (.string s.dst)/\W.cell? ⟨d,t+k*8+3,none⟩=some (int i64 s.dep)/\W.cell? ⟨d,t+k*8+4,none⟩=some (int i64 s.arr)/\W.cell? ⟨d,t+k*8+5,none⟩=some (.slice la s.la.n lc)/\W.cell? ⟨d,t+k*8+6,none⟩=some (.slice ca s.ca.n cc)/\W.cell? ⟨d,t+k*8+7,none⟩=some (int i64 s.most)):=fun W z=>by
  have n:=World.block_lt_of_cell? w _ f0;exact⟨(z.cell (p:=⟨d,t+k*8,none⟩) n).trans f0,(z.cell (p:=⟨d,t+k*8+1,none⟩) n).trans f1,(z.cell (p:=⟨d,t+k*8+2,none⟩) n).trans f2,(z.cell (p:=⟨d,t+k*8+3,none⟩) n).trans f3,(z.cell (p:=⟨d,t+k*8+4,none⟩) n).trans f4,(z.cell (p:=⟨d,t+k*8+5,none⟩) n).trans f5,(z.cell (p:=⟨d,t+k*8+6,none⟩) n).trans f6,(z.cell (p:=⟨d,t+k*8+7,none⟩) n).trans f7⟩
 clear f0 f1 f2 f3 f4 f5 f6 f7 b2 b1 d5 d4 Z b3 d2 eA eB eD m1 m2 m3 m4 m5 m6 m7 m8 m9 d3 hk e5;have i1:(0:Int)<=(k:Int):=by omega
 have i2:(k:Int)<(N:Int):=by omega
 have K:Below w.heap.size w (w.alloc (.cells #[int i64 leg,int i64 1,.bool true,int i64 who,int i64 p.pe,int i64 p.len,int i64 p.hei,int i64 p.cl,.bool p.all,int i64 p.be] 159)):=zk bZ _;have b0:=heap_alloc_new w (.cells #[int i64 leg,int i64 1,.bool true,int i64 who,int i64 p.pe,int i64 p.len,int i64 p.hei,int i64 p.cl,.bool p.all,int i64 p.be] 159);go_enter Tryz.func92,Tryz.ntmps92;go_upto_region 1 with fail;generalize (w.alloc (.cells #[int i64 leg,int i64 1,.bool true,int i64 who,int i64 p.pe,int i64 p.len,int i64 p.hei,int i64 p.cl,.bool p.all,int i64 p.be] 159))=W at K b0 ⊢;have z0:∀ G:zn W,G.val.cell? ⟨g,0,none⟩=some (.slice (some ⟨d,t,none⟩) N J):=fun G=>za (zb HQ.out (ze K G.bel)) 0 _ rfl
 have z1:∀ G:zn W,G.val.cell? ⟨w.heap.size,0,none⟩=some (int i64 leg):=fun G=>za (zb b0 G.bel) 0 _ rfl
 refine zh (by kernel_rfl) (by kernel_rfl) ?_
 repeat(first|go_big_quiet_skip|(go_big_quiet_want;go_big_quiet_op;first|go_big_quiet_on|(apply Exists.intro;refine⟨fun G=>?_,?_⟩;(focus(first|(go_at_call 161;refine zf (v:=int i64 (k:Int)) ((Q9 _ N J x.sa leg _ hN (a0.out.below (ze K G.bel))).mono ?_);rintro e w2 ⟨he,e4⟩;refine⟨?_,e4⟩;rw[HK.out] at he;rcases he with⟨_,rfl⟩|⟨h,_⟩;rfl;omega)));go_big_quiet_on)))
 refine wpQuiet_nil ?_;rintro _ ⟨G,rfl⟩;clear z0 z1;have M:=ze K G.bel;have bW:=zb b0 G.bel;obtain⟨c0,c1,c2,c3,c4,c5,c6,c7⟩:=d7.out G.val M;have y0:=za (zb HQ.out M) 0 _ rfl;have y1:∀ o,(G.val.alloc o).cell? ⟨g,1,none⟩=some (.slice (some ⟨H,0,none⟩) N T):=fun o=>za (zb HQ.out (zk M o)) 1 _ rfl
 have y4:∀ o,(G.val.alloc o).cell? ⟨w.heap.size,4,none⟩=some (int i64 p.pe):=fun o=>za (zd bW o) 4 _ rfl
 have y5:∀ o,(G.val.alloc o).cell? ⟨w.heap.size,5,none⟩=some (int i64 p.len):=fun o=>za (zd bW o) 5 _ rfl
 have y6:∀ o,(G.val.alloc o).cell? ⟨w.heap.size,6,none⟩=some (int i64 p.hei):=fun o=>za (zd bW o) 6 _ rfl
 have y7:∀ o,(G.val.alloc o).cell? ⟨w.heap.size,7,none⟩=some (int i64 p.cl):=fun o=>za (zd bW o) 7 _ rfl
 have y8:∀ o,(G.val.alloc o).cell? ⟨w.heap.size,8,none⟩=some (.bool p.all):=fun o=>za (zd bW o) 8 _ rfl
 have y9:∀ o,(G.val.alloc o).cell? ⟨w.heap.size,9,none⟩=some (int i64 p.be):=fun o=>za (zd bW o) 9 _ rfl
 go_upto_region 8 with fail;have m:Below w.heap.size w ((G.val.alloc (.cells #[int i64 s.id,.string s.fr,.string s.dst,int i64 s.dep,int i64 s.arr,.slice la s.la.n lc,.slice ca s.ca.n cc,int i64 s.most] 140)).alloc (.cells #[int i64 p.pe,int i64 p.len,int i64 p.hei,int i64 p.cl,.bool p.all,int i64 p.be] 45)):=zk (zk M _) _;have I:=zd (zd bW (.cells #[int i64 s.id,.string s.fr,.string s.dst,int i64 s.dep,int i64 s.arr,.slice la s.la.n lc,.slice ca s.ca.n cc,int i64 s.most] 140)) (.cells #[int i64 p.pe,int i64 p.len,int i64 p.hei,int i64 p.cl,.bool p.all,int i64 p.be] 45);have d1:=zd (heap_alloc_new G.val (.cells #[int i64 s.id,.string s.fr,.string s.dst,int i64 s.dep,int i64 s.arr,.slice la s.la.n lc,.slice ca s.ca.n cc,int i64 s.most] 140)) (.cells #[int i64 p.pe,int i64 p.len,int i64 p.hei,int i64 p.cl,.bool p.all,int i64 p.be] 45);have d0:=zfT G.val (.cells #[int i64 s.id,.string s.fr,.string s.dst,int i64 s.dep,int i64 s.arr,.slice la s.la.n lc,.slice ca s.ca.n cc,int i64 s.most] 140) (.cells #[int i64 p.pe,int i64 p.len,int i64 p.hei,int i64 p.cl,.bool p.all,int i64 p.be] 45);generalize hx0:(G.val.alloc (.cells #[int i64 s.id,.string s.fr,.string s.dst,int i64 s.dep,int i64 s.arr,.slice la s.la.n lc,.slice ca s.ca.n cc,int i64 s.most] 140)).alloc (.cells #[int i64 p.pe,int i64 p.len,int i64 p.hei,int i64 p.cl,.bool p.all,int i64 p.be] 45)=X at m I d1 d0 ⊢;generalize hsb:G.val.heap.size=sb at d1 d0 ⊢;clear c0 c1 c2 c3 c4 c5 c6 c7 y0 y1 y4 y5 y6 y7 y8 y9 bW M K b0 hx0 hsb G W;have w1:=za I 1 _ rfl;have w2:=za I 2 _ rfl;have w3:=za I 3 _ rfl;have L0:X.cell? ⟨H,k*3,none⟩=some (.slice S l.stn Y):=(m.cell (p:=⟨H,k*3,none⟩) b4).trans b6.out;have L1:X.cell? ⟨H,k*3+1,none⟩=some (.slice P l.ron U):=(m.cell (p:=⟨H,k*3+1,none⟩) b4).trans b7.out;have L2:X.cell? ⟨H,k*3+2,none⟩=some (.slice Q l.sen V):=(m.cell (p:=⟨H,k*3+2,none⟩) b4).trans b8.out;have bG:=zb d8.out m;have HR:Hid (r<l.ron/\ZV l.ro r=who/\∀ j,j<l.ron->j≠r->ZV l.ro j≠who):=by rw[O.out];exact⟨hr,hx,a4⟩
 clear hr hx a4;have g0:l.ron<=60:=a5.out.2.1.2.1;go_wp2;go_loopw [9,11,106] (fun v _ i wr=>∃ q:Nat,q<=l.ron/\i=int i64 q/\wr.ownsRow X.heap.size 228 4 v (zaY r q) (zw (Z7 l.ro r) (zaY r q))/\Below X.heap.size X wr) (fun _ _ i _=>l.ron - (intOf i).toNat)
 case atStart=>exact⟨0,Nat.zero_le _,rfl,⟨rfl,.inl ⟨rfl,rfl⟩⟩,bZ⟩
 case round =>
  obtain⟨q,hq,rfl,f,a⟩:=hrel
  by_cases hlq:q<l.ron
  ·obtain⟨b,off,rfl,h0,h1,h2,h3⟩:=(QR c9.out).below m q hlq
   have z:=World.block_lt_of_cell? X _ h0;have c0:=(a.cell (p:=⟨b,off+q*4,none⟩) z).trans h0;have c1:=(a.cell (p:=⟨b,off+q*4+1,none⟩) z).trans h1;have c2:=(a.cell (p:=⟨b,off+q*4+2,none⟩) z).trans h2;have c3:=(a.cell (p:=⟨b,off+q*4+3,none⟩) z).trans h3;clear h0 h1 h2 h3;have y3:∀ o,(wr.alloc o).cell? ⟨w.heap.size,3,none⟩=some (int i64 who):=fun o=>za (zd (zb I a) o) 3 _ rfl
   by_cases he:q=r
   ·have e1:((l.ro q).who == who)=true:=by rw[he];simpa [ZV] using HR.out.2.1
    have e2:((l.ro q).who != who)=false:=by rw[he];simpa [ZV] using HR.out.2.1
    have HC:Hid (zaY r (q+1)=zaY r q):=by
     have a1:zaY r (q+1)=q+1 - 1:=if_neg (by omega)
     have a2:zaY r q=q:=if_pos (by omega)
     show zaY r (q+1)=zaY r q
     omega
    clear he;go_wp2;go_roundw
    case rel=>exact⟨q+1,by omega,by go_num,by rw[HC.out];exact zo (zk bZ _) f,zk a _⟩
    case measure=>simp[intOf];omega
   ·have b5:=HR.out.2.2 q hlq he
    have e1:((l.ro q).who == who)=false:=by simpa [ZV] using b5
    have e2:((l.ro q).who != who)=true:=by simpa [ZV] using b5
    have HC:Hid (zaY r (q+1)=zaY r q+1/\Z7 l.ro r (zaY r q)=l.ro q/\zaY r q<=60):=by
     by_cases c:q<=r
     ·have a1:zaY r (q+1)=q+1:=if_pos (by omega)
      have a2:zaY r q=q:=if_pos c;have a3:Z7 l.ro r q=l.ro q:=if_pos (by omega)
      rw[a1,a2,a3];exact⟨rfl,rfl,by omega⟩
     ·have a1:zaY r (q+1)=q+1 - 1:=if_neg (by omega)
      have a2:zaY r q=q - 1:=if_neg c;have a3:Z7 l.ro r (q - 1)=l.ro (q - 1+1):=if_neg (by omega)
      rw[a1,a2,a3];exact⟨by omega,by rw[show q - 1+1=q by omega],by omega⟩
    clear he b5;have g3:=a.size;have e6:=HC.out.2.2;generalize hqq:zaY r q=qq at f e6;have b9:=hI hqq;clear hqq;have HN:Hid (∀ ad,(some ⟨wr.heap.size+1,0,none⟩:Option Addr)=some ad->∀ j u,[Value.int .i64 (l.ro q).who,int i64 (l.ro q).cab,int i64 (l.ro q).many,.bool (l.ro q).all][j]?=some u->((wr.alloc (.cells #[int i64 (l.ro q).who,int i64 (l.ro q).cab,int i64 (l.ro q).many,.bool (l.ro q).all] 228)).alloc (.cells #[int i64 (l.ro q).who,int i64 (l.ro q).cab,int i64 (l.ro q).many,.bool (l.ro q).all] 228)).cell? (ad.add j)=some u):=by
     intro ad e
     cases e
     exact World.news_of_block (by simpa using heap_alloc_new (wr.alloc _) _)
    go_wp2_with (first|(at_builtin;refine zv _ (by rfl) (.tmp 115) (.tmp 117) 142 (by rfl) X.heap.size 228 j0 (.agg #[int i64 0,int i64 0,int i64 0,.bool false]) 4 32 Tryz.underlying142 ji e9 f8 f9 rfl (by decide) _ qq (zw (Z7 l.ro r) qq) (by rfl) ((f.alloc _).alloc _) (some ⟨wr.heap.size+1,0,none⟩) 1 1 [int i64 (l.ro q).who,int i64 (l.ro q).cab,int i64 (l.ro q).many,.bool (l.ro q).all] (by rfl) (fun h=>(by cases h)) (by rfl) HN.out (by intro u hu;simp at hu;rcases hu with rfl|rfl|rfl|rfl <;> rfl) (by unfold maxLen;omega) (by omega) (by simp;omega) ?_;intro v' g4 e8 e7))
    go_roundw
    case rel =>
     refine⟨q+1,by omega,by go_num,?_,(zk (zk a _) _).grown e7 (by simp;omega) (fun j hj=>(f.lt j hj).1)⟩
     obtain⟨a1,a2,_⟩:=HC.out;rw[a1,b9.out,Q6];rw[b9.out] at a2;rw[a2];exact e8
    case measure=>simp[intOf];omega
  ·obtain rfl:q=l.ron:=by omega
   have HC:Hid (zaY r l.ron=l.ron - 1):=if_neg (by have:=HR.out.1;omega)
   rw[HC.out] at f;obtain⟨av,cv,rfl,_⟩:=zp f;have q0:=(a.cell (p:=⟨H,k*3+1,none⟩) (zM bG)).trans L1;have q1:=zg (zb bG a) (k*3+1);have HF:Hid _:=doRo (k:=k) (v:=⟨leg,1,true,who,p⟩) HO.out HQ.out d6.out (ze m a) (zu f m.size) (by rw[O.out];exact .noRoom r rfl rfl (by rw[← O.out];exact HR.out.1) (by rw[← O.out];exact HR.out.2.1))
   go_wp2;go_ret;exact HF.out
theorem l7Do_c (g base N R k I T a9:Nat)(a8 a7 a6:Option Addr)(leg who:Int)(p:Qh)(x:Off)(L C A B D E:Nat->Value)(w:World)(hq:w.heap[g]?=some (.cells #[.slice a8 N I,.slice a7 N T,.slice a6 R a9] 38 (0,0)))(z:zF w base (.slice a8 N I) (.slice a7 N T) (.slice a6 R a9) N N R x L C A B D E)(hN:N<=1048576)(hk:zW x.sa leg N=k)(y:k<N)(d3:qm (x.sa k) (x.ld k))(r:Nat)(hr:r<(x.ld k).sen)(hx:zag (x.ld k).se r=who)(a4:∀ j,j<(x.ld k).sen->j≠r->zag (x.ld k).se j≠who) :
  Calls Tryz.prog 92 #[.pointer (some ⟨g,0,none⟩),.agg #[int i64 leg,int i64 2,.bool true,int i64 who,int i64 p.pe,int i64 p.len,int i64 p.hei,int i64 p.cl,.bool p.all,int i64 p.be]] w fun e w'=>zfW g base N R k I T a9 a8 a7 a6 ⟨leg,2,true,who,p⟩ x L C E w e w':=by
 obtain⟨j0,ji,e9,f8,f9⟩:=info_parts Tryz.infoSeat;obtain⟨F,rfl,e5,b4⟩:=qh z.ld.row (by omega)
 have HO:=hI z;have HK:=hI hk;have a5:=hI d3;have d6:Hid (base<=w.heap.size):=by show base<=w.heap.size;omega
 have HQ:=hI hq;have a0:=hI z.sa.at;obtain⟨cs,d2⟩:=zA z.ld.row F rfl;obtain⟨S,Y,eA,m1,m2,m3⟩:=zp (z.ld.st k y);obtain⟨P,U,eB,m4,m5,m6⟩:=zp (z.ld.ro k y);obtain⟨Q,V,eD,m7,m8,m9⟩:=zp (z.ld.se k y);have e3:Hid (w.ownsRow base 220 4 (.slice S (x.ld k).stn Y) (x.ld k).stn (zy (x.ld k).st (x.ld k).stn)):=by show w.ownsRow _ _ _ _ _ _;rw[← eA];exact z.ld.st k y
 have e0:Hid (w.ownsRow base 228 4 (.slice P (x.ld k).ron U) (x.ld k).ron (zw (x.ld k).ro (x.ld k).ron)):=by show w.ownsRow _ _ _ _ _ _;rw[← eB];exact z.ld.ro k y
 have c9:Hid (w.ownsRow base 234 2 (.slice Q (x.ld k).sen V) (x.ld k).sen (zB (x.ld k).se (x.ld k).sen)):=by show w.ownsRow _ _ _ _ _ _;rw[← eD];exact z.ld.se k y
 have b6:Hid (w.cell? ⟨F,k*3,none⟩=some (.slice S (x.ld k).stn Y)):=by
  have h:=zs z.ld.row (k*3+0) (by omega) rfl
  rw[zC 3 _ k 0 (by decide)] at h
  rw[← eA];exact h
 have b7:Hid (w.cell? ⟨F,k*3+1,none⟩=some (.slice P (x.ld k).ron U)):=by
  have h:=zs z.ld.row (k*3+1) (by omega) rfl
  rw[zC 3 _ k 1 (by decide)] at h
  rw[← eB];exact h
 have b8:Hid (w.cell? ⟨F,k*3+2,none⟩=some (.slice Q (x.ld k).sen V)):=by
  have h:=zs z.ld.row (k*3+2) (by omega) rfl
  rw[zC 3 _ k 2 (by decide)] at h
  rw[← eD];exact h
 have d9:Hid ((S=none->(x.ld k).stn=0/\Y=0)/\(P=none->(x.ld k).ron=0/\U=0)/\(Q=none->(x.ld k).sen=0/\V=0)):=⟨m3,m6,m9⟩;obtain⟨s,Z⟩:∃ s,s=x.sa k:=⟨_,rfl⟩;obtain⟨l,b3⟩:∃ l,l=x.ld k:=⟨_,rfl⟩;rw[← b3] at e3 e0 c9 b6 b7 b8 d9 a5;rw[← Z] at a5;have g2:=hI Z;have O:=hI b3;have d8:=hI d2;obtain⟨a,t,la,lc,ca,cc,rfl,f0,f1,f2,f3,f4,f5,f6,f7,b2,b1,d5,d4⟩:=a0.out k y;rw[← Z] at f0 f1 f2 f3 f4 f5 f6 f7 b2 b1 d5 d4;have g1:Hid (zG w la s.la/\zG w ca s.ca):=⟨b2,b1⟩;have d7:Hid (∀ W,Below w.heap.size w W->W.cell? ⟨a,t+k*8,none⟩=some (int i64 s.id)/\W.cell? ⟨a,t+k*8+1,none⟩=some (.string s.fr)/\W.cell? ⟨a,t+k*8+2,none⟩=some (.string s.dst)/\W.cell? ⟨a,t+k*8+3,none⟩=some (int i64 s.dep)/\W.cell? ⟨a,t+k*8+4,none⟩=some (int i64 s.arr)/\W.cell? ⟨a,t+k*8+5,none⟩=some (.slice la s.la.n lc)/\W.cell? ⟨a,t+k*8+6,none⟩=some (.slice ca s.ca.n cc)/\W.cell? ⟨a,t+k*8+7,none⟩=some (int i64 s.most)):=fun W J=>by
  have n:=World.block_lt_of_cell? w _ f0;exact⟨(J.cell (p:=⟨a,t+k*8,none⟩) n).trans f0,(J.cell (p:=⟨a,t+k*8+1,none⟩) n).trans f1,(J.cell (p:=⟨a,t+k*8+2,none⟩) n).trans f2,(J.cell (p:=⟨a,t+k*8+3,none⟩) n).trans f3,(J.cell (p:=⟨a,t+k*8+4,none⟩) n).trans f4,(J.cell (p:=⟨a,t+k*8+5,none⟩) n).trans f5,(J.cell (p:=⟨a,t+k*8+6,none⟩) n).trans f6,(J.cell (p:=⟨a,t+k*8+7,none⟩) n).trans f7⟩
 clear f0 f1 f2 f3 f4 f5 f6 f7 b2 b1 d5 d4 Z b3 d2 eA eB eD m1 m2 m3 m4 m5 m6 m7 m8 m9 d3 hk e5;have i1:(0:Int)<=(k:Int):=by omega
 have i2:(k:Int)<(N:Int):=by omega
 have K:Below w.heap.size w (w.alloc (.cells #[int i64 leg,int i64 2,.bool true,int i64 who,int i64 p.pe,int i64 p.len,int i64 p.hei,int i64 p.cl,.bool p.all,int i64 p.be] 159)):=zk bZ _;have b0:=heap_alloc_new w (.cells #[int i64 leg,int i64 2,.bool true,int i64 who,int i64 p.pe,int i64 p.len,int i64 p.hei,int i64 p.cl,.bool p.all,int i64 p.be] 159);go_enter Tryz.func92,Tryz.ntmps92;go_upto_region 1 with fail;generalize (w.alloc (.cells #[int i64 leg,int i64 2,.bool true,int i64 who,int i64 p.pe,int i64 p.len,int i64 p.hei,int i64 p.cl,.bool p.all,int i64 p.be] 159))=W at K b0 ⊢;have z0:∀ G:zn W,G.val.cell? ⟨g,0,none⟩=some (.slice (some ⟨a,t,none⟩) N I):=fun G=>za (zb HQ.out (ze K G.bel)) 0 _ rfl
 have z1:∀ G:zn W,G.val.cell? ⟨w.heap.size,0,none⟩=some (int i64 leg):=fun G=>za (zb b0 G.bel) 0 _ rfl
 refine zh (by kernel_rfl) (by kernel_rfl) ?_
 repeat(first|go_big_quiet_skip|(go_big_quiet_want;go_big_quiet_op;first|go_big_quiet_on|(apply Exists.intro;refine⟨fun G=>?_,?_⟩;(focus(first|(go_at_call 161;refine zf (v:=int i64 (k:Int)) ((Q9 _ N I x.sa leg _ hN (a0.out.below (ze K G.bel))).mono ?_);rintro e w2 ⟨he,e4⟩;refine⟨?_,e4⟩;rw[HK.out] at he;rcases he with⟨_,rfl⟩|⟨h,_⟩;rfl;omega)));go_big_quiet_on)))
 refine wpQuiet_nil ?_;rintro _ ⟨G,rfl⟩;clear z0 z1;have M:=ze K G.bel;have bW:=zb b0 G.bel;obtain⟨c0,c1,c2,c3,c4,c5,c6,c7⟩:=d7.out G.val M;have y0:=za (zb HQ.out M) 0 _ rfl;have y1:∀ o,(G.val.alloc o).cell? ⟨g,1,none⟩=some (.slice (some ⟨F,0,none⟩) N T):=fun o=>za (zb HQ.out (zk M o)) 1 _ rfl
 have y4:∀ o,(G.val.alloc o).cell? ⟨w.heap.size,4,none⟩=some (int i64 p.pe):=fun o=>za (zd bW o) 4 _ rfl
 have y5:∀ o,(G.val.alloc o).cell? ⟨w.heap.size,5,none⟩=some (int i64 p.len):=fun o=>za (zd bW o) 5 _ rfl
 have y6:∀ o,(G.val.alloc o).cell? ⟨w.heap.size,6,none⟩=some (int i64 p.hei):=fun o=>za (zd bW o) 6 _ rfl
 have y7:∀ o,(G.val.alloc o).cell? ⟨w.heap.size,7,none⟩=some (int i64 p.cl):=fun o=>za (zd bW o) 7 _ rfl
 have y8:∀ o,(G.val.alloc o).cell? ⟨w.heap.size,8,none⟩=some (.bool p.all):=fun o=>za (zd bW o) 8 _ rfl
 have y9:∀ o,(G.val.alloc o).cell? ⟨w.heap.size,9,none⟩=some (int i64 p.be):=fun o=>za (zd bW o) 9 _ rfl
 go_upto_region 8 with fail;have m:Below w.heap.size w ((G.val.alloc (.cells #[int i64 s.id,.string s.fr,.string s.dst,int i64 s.dep,int i64 s.arr,.slice la s.la.n lc,.slice ca s.ca.n cc,int i64 s.most] 140)).alloc (.cells #[int i64 p.pe,int i64 p.len,int i64 p.hei,int i64 p.cl,.bool p.all,int i64 p.be] 45)):=zk (zk M _) _;have H:=zd (zd bW (.cells #[int i64 s.id,.string s.fr,.string s.dst,int i64 s.dep,int i64 s.arr,.slice la s.la.n lc,.slice ca s.ca.n cc,int i64 s.most] 140)) (.cells #[int i64 p.pe,int i64 p.len,int i64 p.hei,int i64 p.cl,.bool p.all,int i64 p.be] 45);have d1:=zd (heap_alloc_new G.val (.cells #[int i64 s.id,.string s.fr,.string s.dst,int i64 s.dep,int i64 s.arr,.slice la s.la.n lc,.slice ca s.ca.n cc,int i64 s.most] 140)) (.cells #[int i64 p.pe,int i64 p.len,int i64 p.hei,int i64 p.cl,.bool p.all,int i64 p.be] 45);have d0:=zfT G.val (.cells #[int i64 s.id,.string s.fr,.string s.dst,int i64 s.dep,int i64 s.arr,.slice la s.la.n lc,.slice ca s.ca.n cc,int i64 s.most] 140) (.cells #[int i64 p.pe,int i64 p.len,int i64 p.hei,int i64 p.cl,.bool p.all,int i64 p.be] 45);generalize hx0:(G.val.alloc (.cells #[int i64 s.id,.string s.fr,.string s.dst,int i64 s.dep,int i64 s.arr,.slice la s.la.n lc,.slice ca s.ca.n cc,int i64 s.most] 140)).alloc (.cells #[int i64 p.pe,int i64 p.len,int i64 p.hei,int i64 p.cl,.bool p.all,int i64 p.be] 45)=X at m H d1 d0 ⊢;generalize hsb:G.val.heap.size=sb at d1 d0 ⊢;clear c0 c1 c2 c3 c4 c5 c6 c7 y0 y1 y4 y5 y6 y7 y8 y9 bW M K b0 hx0 hsb G W;have w1:=za H 1 _ rfl;have w2:=za H 2 _ rfl;have w3:=za H 3 _ rfl;have L0:X.cell? ⟨F,k*3,none⟩=some (.slice S l.stn Y):=(m.cell (p:=⟨F,k*3,none⟩) b4).trans b6.out;have L1:X.cell? ⟨F,k*3+1,none⟩=some (.slice P l.ron U):=(m.cell (p:=⟨F,k*3+1,none⟩) b4).trans b7.out;have L2:X.cell? ⟨F,k*3+2,none⟩=some (.slice Q l.sen V):=(m.cell (p:=⟨F,k*3+2,none⟩) b4).trans b8.out;have bG:=zb d8.out m;have HR:Hid (r<l.sen/\zag l.se r=who/\∀ j,j<l.sen->j≠r->zag l.se j≠who):=by rw[O.out];exact⟨hr,hx,a4⟩
 clear hr hx a4;have g0:l.sen<=60:=a5.out.2.2.2.1;go_wp2;go_loopw [12,14,132] (fun v _ i wr=>∃ q:Nat,q<=l.sen/\i=int i64 q/\wr.ownsRow X.heap.size 234 2 v (zaY r q) (zB (Z7 l.se r) (zaY r q))/\Below X.heap.size X wr) (fun _ _ i _=>l.sen - (intOf i).toNat)
 case atStart=>exact⟨0,Nat.zero_le _,rfl,⟨rfl,.inl ⟨rfl,rfl⟩⟩,bZ⟩
 case round =>
  obtain⟨q,hq,rfl,f,d⟩:=hrel
  by_cases hlq:q<l.sen
  ·obtain⟨b,off,rfl,h0,h1⟩:=(QS c9.out).below m q hlq
   have J:=World.block_lt_of_cell? X _ h0;have c0:=(d.cell (p:=⟨b,off+q*2,none⟩) J).trans h0;have c1:=(d.cell (p:=⟨b,off+q*2+1,none⟩) J).trans h1;clear h0 h1;have y3:∀ o,(wr.alloc o).cell? ⟨w.heap.size,3,none⟩=some (int i64 who):=fun o=>za (zd (zb H d) o) 3 _ rfl
   by_cases he:q=r
   ·have e1:((l.se q).who == who)=true:=by rw[he];simpa [zag] using HR.out.2.1
    have e2:((l.se q).who != who)=false:=by rw[he];simpa [zag] using HR.out.2.1
    have HC:Hid (zaY r (q+1)=zaY r q):=by
     have a1:zaY r (q+1)=q+1 - 1:=if_neg (by omega)
     have a2:zaY r q=q:=if_pos (by omega)
     show zaY r (q+1)=zaY r q
     omega
    clear he;go_wp2;go_roundw
    case rel=>exact⟨q+1,by omega,by go_num,by rw[HC.out];exact zo (zk bZ _) f,zk d _⟩
    case measure=>simp[intOf];omega
   ·have b5:=HR.out.2.2 q hlq he
    have e1:((l.se q).who == who)=false:=by simpa [zag] using b5
    have e2:((l.se q).who != who)=true:=by simpa [zag] using b5
    have HC:Hid (zaY r (q+1)=zaY r q+1/\Z7 l.se r (zaY r q)=l.se q/\zaY r q<=60):=by
     by_cases c:q<=r
     ·have a1:zaY r (q+1)=q+1:=if_pos (by omega)
      have a2:zaY r q=q:=if_pos c;have a3:Z7 l.se r q=l.se q:=if_pos (by omega)
      rw[a1,a2,a3];exact⟨rfl,rfl,by omega⟩
     ·have a1:zaY r (q+1)=q+1 - 1:=if_neg (by omega)
      have a2:zaY r q=q - 1:=if_neg c;have a3:Z7 l.se r (q - 1)=l.se (q - 1+1):=if_neg (by omega)
      rw[a1,a2,a3];exact⟨by omega,by rw[show q - 1+1=q by omega],by omega⟩
    clear he b5;have g3:=d.size;have e6:=HC.out.2.2;generalize hqq:zaY r q=qq at f e6;have b9:=hI hqq;clear hqq;have HN:Hid (∀ ad,(some ⟨wr.heap.size+1,0,none⟩:Option Addr)=some ad->∀ j u,[Value.int .i64 (l.se q).who,int i64 (l.se q).many][j]?=some u->((wr.alloc (.cells #[int i64 (l.se q).who,int i64 (l.se q).many] 234)).alloc (.cells #[int i64 (l.se q).who,int i64 (l.se q).many] 234)).cell? (ad.add j)=some u):=by
     intro ad e
     cases e
     exact World.news_of_block (by simpa using heap_alloc_new (wr.alloc _) _)
    go_wp2_with (first|(at_builtin;refine zv _ (by rfl) (.tmp 141) (.tmp 143) 143 (by rfl) X.heap.size 234 j0 (.agg #[int i64 0,int i64 0]) 2 16 Tryz.underlying143 ji e9 f8 f9 rfl (by decide) _ qq (zB (Z7 l.se r) qq) (by rfl) ((f.alloc _).alloc _) (some ⟨wr.heap.size+1,0,none⟩) 1 1 [int i64 (l.se q).who,int i64 (l.se q).many] (by rfl) (fun h=>(by cases h)) (by rfl) HN.out (by intro u hu;simp at hu;rcases hu with rfl|rfl <;> rfl) (by unfold maxLen;omega) (by omega) (by simp;omega) ?_;intro v' g4 e8 e7))
    go_roundw
    case rel =>
     refine⟨q+1,by omega,by go_num,?_,(zk (zk d _) _).grown e7 (by simp;omega) (fun j hj=>(f.lt j hj).1)⟩
     obtain⟨a1,a2,_⟩:=HC.out;rw[a1,b9.out,zax];rw[b9.out] at a2;rw[a2];exact e8
    case measure=>simp[intOf];omega
  ·obtain rfl:q=l.sen:=by omega
   have HC:Hid (zaY r l.sen=l.sen - 1):=if_neg (by have:=HR.out.1;omega)
   rw[HC.out] at f;obtain⟨av,cv,rfl,_⟩:=zp f;have q0:=(d.cell (p:=⟨F,k*3+2,none⟩) (zM bG)).trans L2;have q1:=zg (zb bG d) (k*3+2);have HF:Hid _:=doSe (k:=k) (v:=⟨leg,2,true,who,p⟩) HO.out HQ.out d6.out (ze m d) (zu f m.size) (by rw[O.out];exact .noSeat r rfl rfl (by rw[← O.out];exact HR.out.1) (by rw[← O.out];exact HR.out.2.1))
   go_wp2;go_ret;exact HF.out
end Go.Proofs.YtmdnjgihooflfaaGreatDoor

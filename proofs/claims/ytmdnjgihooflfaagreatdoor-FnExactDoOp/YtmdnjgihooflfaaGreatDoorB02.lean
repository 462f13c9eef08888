import Derived.Deep.DrawnRows
import Derived.Test.YtmdnjgihooflfaaGreatDoorB00
namespace Go.Proofs.YtmdnjgihooflfaaGreatDoor
open Go.RowKit
open Go.Value (int)
open Go.IntKind (i64)
open _root_.Go.Proofs.Tryz
set_option maxHeartbeats 64000000
set_option maxRecDepth 1000000
section
attribute [local go_sem ↓] Go.wp_at_zero Go.wp_at_succ
theorem Mj {W w:World}{b i:Nat}(h:Below W W w)(a:W.heap.size<=b)(u:Value):Below W W (w.setCell (b,i) u):=h.setCell a u
def af (F:Nat->Int):Value:=.agg #[(F 0),(F 1),(F 2),(F 3),(F 4),(F 5)]
theorem GJ (T:Option Addr)(n c:Nat)(p:zv)(F:Nat->Int)(x cab many:Int)(all:Bool)(w:World)(P:p.n=n)(O:Fc p)(Y:zJ w T p) :
  Calls prog 265 #[(T,n,c),.agg #[(F 0),(F 1),(F 2),(F 3),(F 4),(F 5)],.agg #[x,cab,many,all]] w λe w'=>qH (Bh p F ⟨x,cab,many,all⟩) e/\Below w w w':=by
 have t:=hI P;have Z:=hI O;have a2:n<=6:=by rw[← P];exact O.1
 clear P O;have a1:∀ (fn) (first cap) (w),(Instr.makeFunc fn _ cap).run prog w=.ok (.func fn first cap) w:=λ_ _ _ _=>rfl
 have k1:=nilB;have k2:=nilW;have k3:=methB;have k4:=methW;go_enter func265,ntmps265;go_upto_region 1 with fail;have u:((w.alloc _).alloc (.cells #[x,cab,many,all] 228)).heap[w.heap.size]?=some (.cells #[(F 0),(F 1),(F 2),(F 3),(F 4),(F 5)] 323 (0,0)):=zg (Jb w _) _;have v:=Kw u;have k:=lu u;generalize (w.alloc _).alloc _=W at u v k ⊢;have a4:IntKind.i64.wrap ((n:Int) - 1)=(n:Int) - 1:=by rw[Jk];omega
 have z1:=bC v 1
 by_cases h3:In cab 0 ((n:Int) - 1)
 ·have e3:=Jd h3
  have H:=hI h3;obtain⟨m,rfl⟩:∃ m:Nat,cab=m:=⟨cab.toNat,by unfold In at h3;omega⟩
  have X:m<n:=by unfold In at h3;omega
  clear h3;obtain⟨b,off,rfl,L,U⟩:=Y m (by rw[t.out];exact X)
  have V:=Ja w _ L;have i1:=n0 m;have i2:(m:Int)<(n:Int):=oM;have i3:(m:Int)<6:=oM;have i4:m<6:=oM;have l:=hI k;have i:Hid (∀ w',Below _ W w'->(w'.cell? _=some (.int _ x)/\w'.cell? _=some (.int _ _)/\w'.cell? _=some (.int _ _)/\w'.cell? _=some (.bool all)/\_/\_/\w'.cell? ⟨_,m,_⟩=some (.int _ (F m)))):=λw' h=>by
   have I:=za v h;have s:=za u h;refine⟨bC I 0,bC I 1,bC I 2,bC I 3,tR (zb k h) L V,tR (zb k h) U V,?_⟩;have:m=0∨m=1∨m=2∨m=3∨m=4∨m=5:=oM
   rcases this with rfl|rfl|rfl|rfl|rfl|rfl
   ·exact bC s 0
   ·exact bC s 1
   ·exact bC s 2
   ·exact bC s 3
   ·exact bC s 4
   ·exact bC s 5
  have a3:=zD v;clear L U u v k Y
  cases all with
  |false =>
   go_upto_region 3 with(first|(go_at_call 191;refine bM (zx _ _ _ _) λw' f=>?_;have f:=f.symm;subst f))
   go_cut [7,8] (λQ R wc=>∃ B,Q=.pointer (some ⟨B,0,none⟩)/\R=.bool (decide (In many 1 (F m)))/\wc.cell? ⟨B,2,none⟩=some (int i64 many)/\Below W W wc)
   case first =>
    go_region_held3 (λw'=>w'.cell? (w.heap.size+1,0)=some (int i64 x)/\w'.cell? (w.heap.size+1,1)=some (m:Int)/\w'.cell? (w.heap.size+1,2)=some (int i64 many)/\w'.cell? (w.heap.size+1,3)=some (.bool false)/\w'.cell? (b,off+m*2)=some (p.A m)/\w'.cell? (b,off+m*2+1)=some (p.B m)/\w'.cell? (w.heap.size,m)=some (F m))
     ((refine i _ ?_;(repeat(first|exact bZ|refine Jh ?_|refine zd ?_ _|refine Mj ?_ oM _|refine zb ?_ d|refine zb ?_ g))))
     (first|(go_at_call 286;refine bM (Ng _ _ _ _ _) λo g=>?_;have s3:W.heap.size<=o.heap.size:=(by have:=g.size;first|omega|(simp at this;omega));(first|(have r:o.heap[W.heap.size]?=_:=za (Jb W.drew (.cells _ 228)) g)|skip))|(go_at_call 337;refine bM (IE _ _ _ _ _) λS d=>?_;(first|(have a:=za r d;have C:=bC a 0;have D:=bC a 1;have E:=bC a 2;have G:=bC a 3;have y:=zc a 0;have z:=zc a 1;have A:=zc a 2;have f3:=zc a 3)|(have a:=za (Jb o (.cells _ 228)) d;have C:=bC a 0;have D:=bC a 1;have E:=bC a 2;have G:=bC a 3;have y:=zc a 0;have z:=zc a 1;have A:=zc a 2;have f3:=zc a 3)|(have a:=za (Jb o.drew (.cells #[(),(),(),.bool false] 228)) d;have C:=bC a 0;have D:=bC a 1;have E:=bC a 2;have G:=bC a 3;have y:=zc a 0;have z:=zc a 1;have A:=zc a 2;have f3:=zc a 3)|skip)))
    all_goals
     go_wp2;go_meet;exact⟨_,rfl,rfl,(by first|exact bC (Jb S _) 2|exact zf (zk (zk (zk (zk a 0 _) 1 _) 2 _) 3 _) 2 _ rfl),(by(repeat(first|exact bZ|refine Jh ?_|refine zd ?_ _|refine Mj ?_ oM _|refine zb ?_ d|refine zb ?_ g)))⟩
   case rest =>
   obtain⟨B,rfl,rfl,M,j⟩:=hcut;have N:=(i _ j).2.2.1
   by_cases g5:In many 1 (F m)
   ·have K:=Jd g5
    have q:=hI g5;clear g5;go_wp2;go_ret;exact⟨zN ⟨by rw[t.out];exact H,λh=>(by cases h),λ_=>q⟩,zb l j⟩
   ·have K:=Jc g5
    have q:=hI g5;clear g5;go_wp2;go_ret;exact⟨zh (λh=>q (h.2.2 rfl)),zb l j⟩
  |true =>
   have a0:(0:Int)<=p.B m:=by have:=(Z.2 m (by rw[t.out];exact X)).2;unfold In at this;omega
   go_upto_region 3 with(first|(go_at_call 191;refine bM (zx _ _ _ _) λw' f=>?_;have f:=f.symm;subst f))
   go_cut [7,8] (λQ R wc=>∃ B,Q=.pointer (some ⟨B,0,none⟩)/\R=.bool (decide (F m=p.B m))/\wc.cell? ⟨B,2,none⟩=some (int i64 (p.B m))/\Below W W wc)
   case first =>
    go_region_held3 (λw'=>w'.cell? (w.heap.size+1,0)=some (int i64 x)/\w'.cell? (w.heap.size+1,1)=some (m:Int)/\w'.cell? (w.heap.size+1,2)=some (int i64 many)/\w'.cell? (w.heap.size+1,3)=some (.bool true)/\w'.cell? (b,off+m*2)=some (p.A m)/\w'.cell? (b,off+m*2+1)=some (p.B m)/\w'.cell? (w.heap.size,m)=some (F m))
     ((refine i _ ?_;(repeat(first|exact bZ|refine Jh ?_|refine zd ?_ _|refine Mj ?_ oM _|refine zb ?_ d|refine zb ?_ g))))
     (first|(go_at_call 286;refine bM (Ng _ _ _ _ _) λo g=>?_;have s3:W.heap.size<=o.heap.size:=(by have:=g.size;first|omega|(simp at this;omega));(first|(have r:o.heap[W.heap.size]?=_:=za (Jb W.drew (.cells _ 228)) g)|skip))|(go_at_call 336;refine bM (IF _ _ _ _ _) λS d=>?_;(first|(have a:=za r d;have C:=bC a 0;have D:=bC a 1;have E:=bC a 2;have G:=bC a 3;have y:=zc a 0;have z:=zc a 1;have A:=zc a 2;have f3:=zc a 3)|(have a:=za (Jb o (.cells _ 228)) d;have C:=bC a 0;have D:=bC a 1;have E:=bC a 2;have G:=bC a 3;have y:=zc a 0;have z:=zc a 1;have A:=zc a 2;have f3:=zc a 3)|(have a:=za (Jb o.drew (.cells #[(),(),(),.bool false] 228)) d;have C:=bC a 0;have D:=bC a 1;have E:=bC a 2;have G:=bC a 3;have y:=zc a 0;have z:=zc a 1;have A:=zc a 2;have f3:=zc a 3)|skip)))
    all_goals
     go_wp2;go_meet;exact⟨_,rfl,rfl,(by first|exact bC (Jb S _) 2|exact zf (zk (zk (zk (zk a 0 _) 1 _) 2 _) 3 _) 2 _ rfl),(by(repeat(first|exact bZ|refine Jh ?_|refine zd ?_ _|refine Mj ?_ oM _|refine zb ?_ d|refine zb ?_ g)))⟩
   case rest =>
   obtain⟨B,rfl,rfl,M,j⟩:=hcut;have N:=(i _ j).2.2.1
   by_cases g5:F m=p.B m
   ·have K:=Jd g5
    have q:=hI g5;clear g5
    by_cases g6:many=p.B m
    ·have e6:(p.B m == many)=true:=by simpa using g6.symm
     have J:=hI g6;clear g6;go_wp2;go_ret;exact⟨zN ⟨by rw[t.out];exact H,λ_=>⟨q,J⟩,λh=>(by cases h)⟩,zb l j⟩
    ·have e6:(p.B m == many)=false:=by simp;exact λh=>g6 h.symm
     have J:=hI g6;clear g6;go_wp2;go_ret;exact⟨zh (λh=>J (h.2.1 rfl).2),zb l j⟩
   ·have K:=Jc g5
    have q:=hI g5;clear g5;go_wp2;go_ret;exact⟨zh (λh=>q (h.2.1 rfl).1),zb l j⟩
 ·have e3:=Jc h3
  have H:=hI h3;clear h3;go_wp2_with (first|(go_at_call 191;refine bM (zx _ _ _ _) λw' f=>?_;have f:=f.symm;subst f))
  go_ret;exact⟨zh (λh=>H (by have:=h.1;rw[t.out] at this;exact this)),k⟩
end
end Go.Proofs.YtmdnjgihooflfaaGreatDoor

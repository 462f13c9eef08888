/-
  OWN TEXT: ConcatStay, PlaceI, RoomIn, StandsI, RoomOf, ImplCab, FreeR.
-/
import Derived.Deep.LoopGhost
import Derived.Lib.AppendZeros
import Derived.Test.YtmdnjgihooflfaaGreatDoorKitCo
import Derived.Deep.DrawnRows
import Derived.Test.YtmdnjgihooflfaaGreatDoorB15
namespace Go.Proofs.YtmdnjgihooflfaaGreatDoor
open Go.RowKit
open Go.Value (int)
open Go.IntKind (i64)
open Tryz
set_option maxHeartbeats 64000000
set_option maxRecDepth 100000
theorem zky (k:Nat)(w:World)(hk:k<=4194304) :
  Calls prog 294 #[.slice none 0 0,int i64 k] w λe w'=>(∃ v,e=.returned v/\w'.ownsRow w.heap.size 220 4 v 0 [])/\Below w.heap.size w w':=by
 have d0:decide ((k:Int)<0)=false:=by simp
 by_cases h0:0<k
 ·obtain⟨f,g,b,h,c⟩:=info_parts Tryz.infoStay
  have a:=Lib.run_append_nil_zeros w 141 3 141 220 f _ .i64 _ underlying141 underlying3 g b k h0 (by omega) (by omega) (by rw[c];omega)
  have d1:decide (0<k)=true:=by simpa using h0
  go_enter func294,ntmps294;go_wp2_with (first|(at_builtin;refine Lib.wpList_append_run _ rfl _ _ _ _ rfl _ _ rfl rfl _ _ a ?_))
  go_ret;have d:=grownCap_ge w k 0 220;refine⟨⟨_,rfl,rfl,.inr ⟨_,_,_,rfl,Jr _,Jb w _,Jq _,grownCap_le_maxLen w k 0 _ (by unfold maxLen;omega),?_,rfl⟩⟩,(zk (Ji _ w) _).drew⟩
  rw[Array.size_append,size_zeroCells,size_zeroCells]
  show k*4+_*4=_
  omega
 ·obtain rfl:k=0:=by omega
  go_enter func294,ntmps294;go_wp2;go_ret;exact⟨⟨_,rfl,rfl,.inl ⟨rfl,rfl⟩⟩,bZ⟩
def zfq (n j r:Nat):Nat:=if r=0 then 0 else if r=1 then n else n+j
theorem zns (P:Nat)(m o:Option Addr)(n j p B:Nat)(S T:Nat->Zp)(w:World)(hn:n<=1048576)(C:j<=1048576)
  (k:w.heap[P]?=some (.cells #[.slice m n p,.slice o j B] 141 (0,0))) (L:qw w m n S) (M:qw w o j T) (G:m=none->n=0/\p=0) (H:o=none->j=0/\B=0) :
  Calls prog 288 #[.slice (some ⟨P,0,none⟩) 2 2] w λe w'=>(∃ v,e=.returned v/\w'.ownsRow w.heap.size 220 4 v (n+j) (zy (QI S n T) (n+j)))/\Below w.heap.size w w':=by
 obtain⟨N,O,y,z,A⟩:=info_parts Tryz.infoStay;have V:=hI L;have W:=hI M;have Q:w.cell? _=some (.slice m n p):=za k 0 _ rfl;have R:w.cell? _=some (.slice o j B):=za k 1 _ rfl;have c0:zfq n j 0=0:=rfl;have c1:zfq n j 1=n:=rfl;have c2:zfq n j 2=n+j:=rfl;have K:zy (QI S n T) n=_:=zbU (λi X=>Jf X)
 have J:=hI K;clear L M K;go_enter func288,ntmps288;go_wp2;go_loopg [3,5,11] 2 (λg s _ i wr=>∃ r,r<=2/\g=2 - r/\i=int i64 r/\s=int i64 (zfq n j r)/\wr=w)
 case atStart=>exact⟨0,by omega,rfl,rfl,rfl,rfl⟩
 case round =>
  obtain⟨r,hr,rfl,rfl,rfl,q⟩:=hrel;have t:=q.symm;subst t;clear q;have f:r=0∨r=1∨r=2:=by omega
  rcases f with rfl|rfl|rfl
  ·go_wp2
   go_roundg 1
   case measure=>omega
   case rel=>exact⟨1,by omega,rfl,by go_num,by rw[c1],rfl⟩
  ·have hd:decide ((n:Int)+(j:Int)<0)=false:=by simp;omega
   go_wp2;go_roundg 0
   case measure=>omega
   case rel=>exact⟨2,by omega,rfl,by go_num,by rw[c2];go_num,rfl⟩
  ·go_wp2_with fail
   refine(zky _ _ (by omega)).mono ?_
   rintro e w1 ⟨⟨v,rfl,I⟩,F⟩;clear Q R;go_wp2;go_loopg [6,8,27] 2 (λg u _ i wr=>∃ r,r<=2/\g=2 - r/\i=int i64 r/\wr.ownsRow w.heap.size 220 4 u (zfq n j r) (zy (QI S n T) (zfq n j r))/\Below w.heap.size w wr)
   case atStart=>exact⟨0,by omega,rfl,rfl,I,F⟩
   case round =>
    obtain⟨r,hr,rfl,rfl,l,a⟩:=hrel;obtain⟨U,E⟩:∃ x,x=wr:=⟨_,rfl⟩;subst E;have c:=a.size;have d:=zb k a;have Q:U.cell? _=some (.slice m n p):=za d 0 _ rfl;have R:U.cell? _=some (.slice o j B):=za d 1 _ rfl;have f:r=0∨r=1∨r=2:=by omega
    rcases f with rfl|rfl|rfl
    ·have D:=hI (zal (V.out.below a))
     go_wp2_with (first|(at_builtin;refine zv _ rfl _ _ 141 rfl _ 220 N _ 4 32 underlying141 O y z A rfl (by decide) _ 0 [] (by rfl) l m n p _ rfl G (ZR _ _) D.out (QQ _ _) (by unfold maxLen;omega) (by omega) c ?_;intro Y Z b h))
     go_roundg 1
     case measure=>omega
     case rel=>exact⟨1,by omega,rfl,by go_num,by
      rw[c1];rw[Nat.zero_add,List.nil_append] at b;rw[J.out];exact b,a.grown h c (λj C=>(l.lt j C).1)⟩
    ·have D:=hI (zal (W.out.below a))
     rw[c1,J.out] at l;go_wp2_with (first|(at_builtin;refine zv _ rfl _ _ 141 rfl _ 220 N _ 4 32 underlying141 O y z A rfl (by decide) _ n _ (by rfl) l o j B _ rfl H (ZR _ _) D.out (QQ _ _) (by unfold maxLen;omega) (by omega) c ?_;intro Y Z b h))
     go_roundg 0
     case measure=>omega
     case rel=>exact⟨2,by omega,rfl,by go_num,by
      rw[c2,zfy];exact b,a.grown h c (λj C=>(l.lt j C).1)⟩
    ·rw[c2] at l
     go_wp2;go_ret;exact⟨⟨_,rfl,l⟩,a⟩
theorem ziO (M bo:Option Addr)(m mc n c:Nat)(p:zH)(S:Nat->Zp)(x len hei:Int)(w:World)(hl:p.n=m)(hm:m<=1048576)(hn:n<=1048576)(hc:n<=c)(hx:zG w M p)(hz:qw w bo n S)(z:bo=none->n=0/\c=0) :
  Calls prog 282 #[(M,m,mc),(bo,n,c),x,len,hei] w λe w'=>zgf w' w.heap.size 220 p n S x len hei e/\Below w.heap.size w w':=by
 have HX:=hI hx;have Y:=hI hz;have J:=hI hl;have X:=hI z;clear hx hz hl z;go_enter func282,ntmps282;go_wp2_with fail;refine(zee M bo m mc n c p S _ J hm hn hc HX Y).mono ?_;rintro e w1 ⟨y,C⟩;unfold zlX zmH at y
 rcases y with⟨G,rfl⟩|⟨G,rfl⟩
 ·have T:=hI G
  have a2:m<=4:=by rw[← J.out];exact G.1.1
  have a4:=G.2.1;clear G;have d:=zk C (.cells #[(qy p S n 0),(qy p S n 1),(qy p S n 2),(qy p S n 3)] 319);have H:=Jb w1 (.cells #[(qy p S n 0),(qy p S n 1),(qy p S n 2),(qy p S n 3)] 319)
  by_cases h60:n=60
  ·have Z:(n == 60)=true:=by simpa using h60
   have a0:((n:Int) == 60)=true:=by simp;omega
   have A:=hI h60;clear h60;go_wp2;exact Jj (by simp[results,results282,go_sem]) rfl ⟨zcM (λk h=>h.2.1 A),d⟩
  ·have Z:(n == 60)=false:=by simpa using h60
   have a0:((n:Int) == 60)=false:=by simp;omega
   have A:=hI h60;go_wp2_with fail;generalize w1.alloc _=w2 at d H ⊢;refine(zbz bo n c S x _ hn (Y.below d)).mono ?_;rintro e w3 ⟨rfl,D⟩;have B:=ze d D;have I:=zb H D;clear d H D C;generalize w1.heap.size=f at I ⊢
   by_cases hh:Has (Qc S) n x
   ·have e1:=Jd ((QC _ _ _).2 hh)
    have V:=hI hh;clear hh;go_wp2;exact Jj (by simp[results,results282,go_sem]) rfl ⟨zcM (λk h=>h.2.2.1 V),B⟩
   ·have e1:=Jc (λh=>hh ((QC _ _ _).1 h))
    have V:=hI hh;clear hh h60;go_wp2;go_loopw [15,16,38] (λ_ _ i wr=>∃ k,k<=m/\i=int i64 k/\(∀ j,j<k->¬ zmC p (qy p S n) ⟨x,(j:Int),len,hei⟩)/\wr.heap[f]?=some (.cells #[(qy p S n 0),(qy p S n 1),(qy p S n 2),(qy p S n 3)] 319 (0,0))/\Below w.heap.size w wr) (λ_ _ i _=>m - (intOf i).toNat)
    case atStart=>exact⟨0,Jq _,rfl,λj O=>by omega,I,B⟩
    case round =>
     obtain⟨k,hk,rfl,u,s,g⟩:=hrel;have Q:=hI u;clear u B I
     by_cases hlt:k<m
     ·have r:=zk g (.cells #[x,(k:Int),len,hei] 220)
      have a:=Jb wr (.cells #[x,(k:Int),len,hei] 220);have t:=zd s (.cells #[x,(k:Int),len,hei] 220);obtain⟨s0,s1,s2,s3⟩:=ce4 a;obtain⟨f0,f1,f2,f3⟩:=ce4 s;have a5:=zM s;have a3:¬ f=wr.heap.size:=by omega
      go_upto_region 8 with fail;generalize hW:wr.alloc _=W at a r t s0 s1 s2 s3 ⊢;have a6:=zM a;obtain⟨f0,f1,f2,f3⟩:=ce4 t;clear hW g s;go_wp2_with fail;refine(zfp M m mc p _ x _ len hei _ J a2 (HX.below r)).mono ?_;rintro e b ⟨⟨q,rfl,P⟩,l⟩;have K:=ze r l;have a1:=zb t l;have F:=zb a l;clear r t a l s0 s1 s2 s3 f0 f1 f2 f3
      cases q with
      | false =>
       have U:Hid (¬ _):=λh=>by have:=P.2 h;cases this
       clear P;go_wp2;go_roundw
       case rel=>exact⟨k+1,by omega,by go_num,λj O=>by
        by_cases e:j=k
        ·subst e;exact U
        ·exact Q j (by omega),a1,K⟩
       case measure=>simp[intOf];omega
      | true =>
       have U:=hI (P.1 rfl);clear P;obtain⟨s0,s1,s2,s3⟩:=ce4 F;have R:=hI (λo o'=>zk (zk K o) o')
       have HC:Hid (Calls prog 288 #[(some (b.heap.size+1,0),2,2)] ((b.alloc (.cells #[x,(k:Int),len,hei] 220)).alloc (.cells #[(bo,n,c),(some (b.heap.size,0),1,1)] 141)) λe L=>(∃ v,e=.returned v/\L.ownsRow w.heap.size 220 4 v (n+1) (zy (QI S n (λ_=>⟨x,(k:Int),len,hei⟩)) (n+1)))/\Below w.heap.size w L):=by
        have b1:((b.alloc (.cells #[x,(k:Int),len,hei] 220)).alloc (.cells #[(bo,n,c),(some (b.heap.size,0),1,1)] 141)).heap[b.heap.size+1]?=some (.cells #[(bo,n,c),(some (b.heap.size,0),1,1)] 141 (0,0)):=by simpa using Jb (b.alloc _) _
        have N:((b.alloc _).alloc (.cells #[(bo,n,c),(some (b.heap.size,0),1,1)] 141)).heap[b.heap.size]?=some (.cells #[x,(k:Int),len,hei] 220 (0,0)):=zd (Jb b _) _;refine(zns _ bo _ n 1 c 1 S (λ_=>⟨x,(k:Int),len,hei⟩) _ hn (by omega) b1 (Y.below (R _ _)) ?_ X (λh=>by cases h)).mono ?_
        ·intro i hi
         obtain rfl:i=0:=by omega
         exact⟨_,0,rfl,za N 0 _ rfl,za N 1 _ rfl,za N 2 _ rfl,za N 3 _ rfl⟩
        ·rintro e w5 ⟨⟨v,rfl,ho⟩,E⟩
         exact⟨⟨v,rfl,zu ho (R _ _).size⟩,ze (R _ _) E⟩
       go_wp2_with (first|(go_at_call 288;refine Jm HC ?_;rintro e w5 ⟨⟨v,rfl,ho⟩,E⟩))
       exact Jj (by simp[results,results282,go_sem]) rfl ⟨zkm (znk T A V (by rw[J.out];exact hlt) U Q) ho,E⟩
     ·obtain rfl:k=m:=by omega
      go_wp2;exact Jj (by simp[results,results282,go_sem]) rfl ⟨zcM (zlT (λj O=>Q j (by rw[J.out] at O;exact O))),g⟩
 ·have T:=hI G
  clear G;go_wp2;exact Jj (by simp[results,results282,go_sem]) rfl ⟨zcM (λk h=>T h.1),zk C _⟩
theorem zgQ (many cl be free:Int)(w:World) :
  Calls prog 337 #[.agg #[many],.agg #[cl,be],free] w λe w'=>e=.returned (.tuple #[.agg #[(),(),many,.bool false],.bool (decide (In many 1 free))])/\Below w.heap.size w w':=by
 go_enter func337,ntmps337;go_upto_region 1 with fail;go_region_with (first|(go_at_call 191;refine sC (zz _ _ _ _) ?_))
 all_goals
  have a:=by
   have:=Jb ((w.alloc (.cells #[many] 381)).alloc (.cells #[cl,be] 231)) (.cells #[(),(),many,.bool false] 228);rw[World.size_alloc,World.size_alloc] at this;exact zK this
  obtain⟨c,d,f,g⟩:=ce4 a;have b:Hid (Below _ w (((w.alloc (.cells #[many] 381)).alloc (.cells #[cl,be] 231)).alloc (.cells #[(),(),many,.bool false] 228)).drew):=(zk (zk (zk bZ _) _) _).drew;clear a;generalize (((w.alloc _).alloc _).alloc _).drew=W at *;go_wp2;exact Jj (by simp[results,results337,go_sem,c,d,f,g]) rfl ⟨rfl,b⟩
theorem zgR (a cl be free:Int)(w:World) :
  Calls prog 336 #[.agg #[a],.agg #[cl,be],free] w λe w'=>e=.returned (.tuple #[.agg #[(),(),be,.bool true],.bool (decide (free=be/\a<=be))])/\Below w.heap.size w w':=by
 by_cases h:free=be
 ·have k:(free == be)=true:=by simpa using h
  by_cases h2:a<=be
  ·have l:=Jd h2
   have d:Hid (decide (_/\_)=true):=Jd ⟨h,h2⟩;clear h h2;go_enter func336,ntmps336;go_upto_region 1 with fail;go_region
   all_goals
    have b:=by
     have:=Jb ((w.alloc (.cells #[a] 379)).alloc (.cells #[cl,be] 231)) (.cells #[(),(),be,.bool true] 228);rw[World.size_alloc,World.size_alloc] at this;exact zK this
    obtain⟨f,g,i,j⟩:=ce4 b;have c:Hid (Below _ w (((w.alloc (.cells #[a] 379)).alloc (.cells #[cl,be] 231)).alloc (.cells #[(),(),be,.bool true] 228)).drew):=(zk (zk (zk bZ _) _) _).drew;clear b;generalize (((w.alloc _).alloc _).alloc _).drew=W at *;go_wp2;exact Jj (v:=.tuple #[.agg #[(),(),be,.bool true],.bool true]) (by simp[results,results336,go_sem,f,g,i,j]) rfl ⟨by rw[d.out],c⟩
  ·have l:=Jc h2
   have d:Hid (decide (free=be/\_)=false):=Jc (λq=>h2 q.2)
   clear h h2;go_enter func336,ntmps336;go_upto_region 1 with fail;go_region
   all_goals
    have b:=by
     have:=Jb ((w.alloc (.cells #[a] 379)).alloc (.cells #[cl,be] 231)) (.cells #[(),(),be,.bool true] 228);rw[World.size_alloc,World.size_alloc] at this;exact zK this
    obtain⟨f,g,i,j⟩:=ce4 b;have c:Hid (Below _ w (((w.alloc (.cells #[a] 379)).alloc (.cells #[cl,be] 231)).alloc (.cells #[(),(),be,.bool true] 228)).drew):=(zk (zk (zk bZ _) _) _).drew;clear b;generalize (((w.alloc _).alloc _).alloc _).drew=W at *;go_wp2;exact Jj (v:=.tuple #[.agg #[(),(),be,.bool true],.bool false]) (by simp[results,results336,go_sem,f,g,i,j]) rfl ⟨by rw[d.out],c⟩
 ·have k:(free == be)=false:=by simpa using h
  have d:Hid (decide (_/\a<=be)=false):=Jc (λq=>h q.1)
  clear h;go_enter func336,ntmps336;go_upto_region 1 with fail;go_region
  all_goals
   have b:=by
    have:=Jb ((w.alloc (.cells #[a] 379)).alloc (.cells #[cl,be] 231)) (.cells #[(),(),be,.bool true] 228);rw[World.size_alloc,World.size_alloc] at this;exact zK this
   obtain⟨f,g,i,j⟩:=ce4 b;have c:Hid (Below _ w (((w.alloc (.cells #[a] 379)).alloc (.cells #[cl,be] 231)).alloc (.cells #[(),(),be,.bool true] 228)).drew):=(zk (zk (zk bZ _) _) _).drew;clear b;generalize (((w.alloc _).alloc _).alloc _).drew=W at *;go_wp2;exact Jj (v:=.tuple #[.agg #[(),(),be,.bool true],.bool false]) (by simp[results,results336,go_sem,f,g,i,j]) rfl ⟨by rw[d.out],c⟩
theorem nilB (many : Int) (w : World) : (nilAhead 525 381 (.agg #[.int .i64 many]) "loop.example/g00084/impl.roomIn").run Tryz.prog w = .ok (some false) w := by kernel_rfl
theorem nilW (least : Int) (w : World) : (nilAhead 525 379 (.agg #[.int .i64 least]) "loop.example/g00084/impl.roomIn").run Tryz.prog w = .ok (some false) w := by kernel_rfl
theorem methB (many : Int) (w : World) : (method 525 381 (.agg #[.int .i64 many]) "loop.example/g00084/impl.roomIn").run Tryz.prog w = .ok (337, .agg #[.int .i64 many]) w := by kernel_rfl
theorem methW (least : Int) (w : World) : (method 525 379 (.agg #[.int .i64 least]) "loop.example/g00084/impl.roomIn").run Tryz.prog w = .ok (336, .agg #[.int .i64 least]) w := by kernel_rfl
theorem zkz (x c many:Int)(all:Bool)(w:World) :
  Calls prog 286 #[.agg #[x,c,many,all]] w λe w'=>e=.returned (if all then .iface 379 (.agg #[()]) else .iface 381 (.agg #[many]))/\Below w.heap.size w w':=by
 cases all with
 | false =>
  go_enter func286,ntmps286;go_wp2;go_ret;exact⟨rfl,zk bZ _⟩
 | true =>
  go_enter func286,ntmps286;go_wp2;go_ret;exact⟨rfl,zk bZ _⟩
attribute [local go_sem ↓] Go.wp_at_zero Go.wp_at_succ
theorem setI {W w:World}{b i:Nat}(h:Below W.heap.size W w)(a:W.heap.size<=b)(u:Value):Below W.heap.size W (w.setCell (b,i) u):=h.setCell a u
def six (F:Nat->Int):Value:=.agg #[(F 0),(F 1),(F 2),(F 3),(F 4),(F 5)]
theorem zfI (S:Option Addr)(n c:Nat)(p:zH)(F:Nat->Int)(x cab many:Int)(all:Bool)(w:World)(O:p.n=n)(N:zgt p)(X:zG w S p) :
  Calls prog 265 #[(S,n,c),.agg #[(F 0),(F 1),(F 2),(F 3),(F 4),(F 5)],.agg #[x,cab,many,all]] w λe w'=>qX (zbE p F ⟨x,cab,many,all⟩) e/\Below w.heap.size w w':=by
 have s:=hI O;have Y:=hI N;have a2:n<=6:=by rw[← O];exact N.1
 clear O N;have a1:∀ (fn) (first cap) (w),(Instr.makeFunc fn _ cap).run prog w=.ok (.func fn first cap) w:=λ_ _ _ _=>rfl
 have k1:=nilB;have k2:=nilW;have k3:=methB;have k4:=methW;go_enter func265,ntmps265;go_upto_region 1 with fail;have I:((w.alloc _).alloc (.cells #[x,cab,many,all] 228)).heap[w.heap.size]?=some (.cells #[(F 0),(F 1),(F 2),(F 3),(F 4),(F 5)] 323 (0,0)):=zd (Jb w _) _;have t:((w.alloc (.cells #[(F 0),(F 1),(F 2),(F 3),(F 4),(F 5)] 323)).alloc (.cells #[x,cab,many,all] 228)).heap[w.heap.size+1]?=some (.cells #[x,cab,many,all] 228 (0,0)):=by simpa using Jb (w.alloc _) _
 have j:Below _ w ((w.alloc (.cells #[(F 0),(F 1),(F 2),(F 3),(F 4),(F 5)] 323)).alloc (.cells #[x,cab,many,all] 228)):=zk (zk bZ _) _;generalize (w.alloc _).alloc _=W at I t j ⊢;have a4:IntKind.i64.wrap ((n:Int) - 1)=(n:Int) - 1:=by rw[Jk];omega
 have z1:=za t 1 _ rfl
 by_cases h3:In cab 0 ((n:Int) - 1)
 ·have Z:=Jd h3
  have E:=hI h3;obtain⟨m,rfl⟩:∃ m:Nat,cab=m:=⟨cab.toNat,by unfold In at h3;omega⟩
  have V:m<n:=by unfold In at h3;omega
  clear h3;obtain⟨b,off,rfl,K,T⟩:=X m (by rw[s.out];exact V)
  have U:=Ja w _ K;have i1:(0:Int)<=(m:Int):=by omega
  have i2:(m:Int)<(n:Int):=by omega
  have i3:(m:Int)<6:=by omega
  have i4:m<6:=by omega
  have k:=hI j;have g:Hid (∀ w',Below _ W w'->(w'.cell? _=some (.int _ x)/\w'.cell? _=some (.int _ _)/\w'.cell? _=some (.int _ _)/\w'.cell? _=some (.bool all)/\_/\_/\w'.cell? ⟨_,m,_⟩=some (.int _ (F m)))):=λw' h=>by
   have G:=zb t h;have r:=zb I h;refine⟨za G 0 _ rfl,za G 1 _ rfl,za G 2 _ rfl,za G 3 _ rfl,((ze j h).cell U).trans K,((ze j h).cell (p:=⟨b,_+1,_⟩) U).trans T,?_⟩;have:m=0∨m=1∨m=2∨m=3∨m=4∨m=5:=by omega
   rcases this with rfl|rfl|rfl|rfl|rfl|rfl
   ·exact za r 0 _ rfl
   ·exact za r 1 _ rfl
   ·exact za r 2 _ rfl
   ·exact za r 3 _ rfl
   ·exact za r 4 _ rfl
   ·exact za r 5 _ rfl
  have a3:=zM t;clear K T I t j X
  cases all with
  | false =>
   go_upto_region 3 with(first|(go_at_call 191;refine sC (zz _ _ _ _) ?_))
   go_cut [7,8] (λP Q wc=>∃ B,P=.pointer (some ⟨B,0,none⟩)/\Q=.bool (decide (In many 1 (F m)))/\wc.cell? ⟨B,2,none⟩=some (int i64 many)/\Below W.heap.size W wc)
   case first =>
    go_region_held3 (λw'=>w'.cell? (w.heap.size+1,0)=some (int i64 x)/\w'.cell? (w.heap.size+1,1)=some (m:Int)/\w'.cell? (w.heap.size+1,2)=some (int i64 many)/\w'.cell? (w.heap.size+1,3)=some (.bool false)/\w'.cell? (b,off+m*2)=some (p.A m)/\w'.cell? (b,off+m*2+1)=some (p.B m)/\w'.cell? (w.heap.size,m)=some (F m))
     ((refine g _ ?_;(repeat(first|exact bZ|refine Jh ?_|refine zk ?_ _|refine setI ?_ (by omega) _|refine ze ?_ d|refine ze ?_ f))))
     (first|(go_at_call 286;refine(zkz _ _ _ _ _).mono ?_;rintro e l ⟨rfl,f⟩;have s3:W.heap.size<=l.heap.size:=(by have:=f.size;first|omega|(simp at this;omega));(first|(have q:l.heap[W.heap.size]?=_:=zb (Jb W.drew (.cells _ 228)) f)|skip))|(go_at_call 337;refine(zgQ _ _ _ _ _).mono ?_;rintro e R ⟨rfl,d⟩;(first|(have a:=zb q d;have z:=za a 0 _ rfl;have A:=za a 1 _ rfl;have C:=za a 2 _ rfl;have D:=za a 3 _ rfl;have u:=zg a 0;have v:=zg a 1;have y:=zg a 2;have f3:=zg a 3)|(have a:=zb (Jb l (.cells _ 228)) d;have z:=za a 0 _ rfl;have A:=za a 1 _ rfl;have C:=za a 2 _ rfl;have D:=za a 3 _ rfl;have u:=zg a 0;have v:=zg a 1;have y:=zg a 2;have f3:=zg a 3)|(have a:=zb (Jb l.drew (.cells #[(),(),(),.bool false] 228)) d;have z:=za a 0 _ rfl;have A:=za a 1 _ rfl;have C:=za a 2 _ rfl;have D:=za a 3 _ rfl;have u:=zg a 0;have v:=zg a 1;have y:=zg a 2;have f3:=zg a 3)|skip)))
    all_goals
     go_wp2;go_meet;exact⟨_,rfl,rfl,(by first|exact za (Jb R _) 2 _ rfl|exact za (zm (zm (zm (zm a 0 _) 1 _) 2 _) 3 _) 2 _ rfl),(by(repeat(first|exact bZ|refine Jh ?_|refine zk ?_ _|refine setI ?_ (by omega) _|refine ze ?_ d|refine ze ?_ f)))⟩
   case rest =>
   obtain⟨B,rfl,rfl,L,i⟩:=hcut;have M:=(g _ i).2.2.1
   by_cases g5:In many 1 (F m)
   ·have J:=Jd g5
    have o:=hI g5;clear g5;go_wp2;go_ret;exact⟨zR ⟨by rw[s.out];exact E,λh=>(by cases h),λ_=>o⟩,ze k i⟩
   ·have J:=Jc g5
    have o:=hI g5;clear g5;go_wp2;go_ret;exact⟨zl (λh=>o (h.2.2 rfl)),ze k i⟩
  | true =>
   have a0:(0:Int)<=p.B m:=by have:=(Y.2 m (by rw[s.out];exact V)).2;unfold In at this;omega
   go_upto_region 3 with(first|(go_at_call 191;refine sC (zz _ _ _ _) ?_))
   go_cut [7,8] (λP Q wc=>∃ B,P=.pointer (some ⟨B,0,none⟩)/\Q=.bool (decide (F m=p.B m))/\wc.cell? ⟨B,2,none⟩=some (int i64 (p.B m))/\Below W.heap.size W wc)
   case first =>
    go_region_held3 (λw'=>w'.cell? (w.heap.size+1,0)=some (int i64 x)/\w'.cell? (w.heap.size+1,1)=some (m:Int)/\w'.cell? (w.heap.size+1,2)=some (int i64 many)/\w'.cell? (w.heap.size+1,3)=some (.bool true)/\w'.cell? (b,off+m*2)=some (p.A m)/\w'.cell? (b,off+m*2+1)=some (p.B m)/\w'.cell? (w.heap.size,m)=some (F m))
     ((refine g _ ?_;(repeat(first|exact bZ|refine Jh ?_|refine zk ?_ _|refine setI ?_ (by omega) _|refine ze ?_ d|refine ze ?_ f))))
     (first|(go_at_call 286;refine(zkz _ _ _ _ _).mono ?_;rintro e l ⟨rfl,f⟩;have s3:W.heap.size<=l.heap.size:=(by have:=f.size;first|omega|(simp at this;omega));(first|(have q:l.heap[W.heap.size]?=_:=zb (Jb W.drew (.cells _ 228)) f)|skip))|(go_at_call 336;refine(zgR _ _ _ _ _).mono ?_;rintro e R ⟨rfl,d⟩;(first|(have a:=zb q d;have z:=za a 0 _ rfl;have A:=za a 1 _ rfl;have C:=za a 2 _ rfl;have D:=za a 3 _ rfl;have u:=zg a 0;have v:=zg a 1;have y:=zg a 2;have f3:=zg a 3)|(have a:=zb (Jb l (.cells _ 228)) d;have z:=za a 0 _ rfl;have A:=za a 1 _ rfl;have C:=za a 2 _ rfl;have D:=za a 3 _ rfl;have u:=zg a 0;have v:=zg a 1;have y:=zg a 2;have f3:=zg a 3)|(have a:=zb (Jb l.drew (.cells #[(),(),(),.bool false] 228)) d;have z:=za a 0 _ rfl;have A:=za a 1 _ rfl;have C:=za a 2 _ rfl;have D:=za a 3 _ rfl;have u:=zg a 0;have v:=zg a 1;have y:=zg a 2;have f3:=zg a 3)|skip)))
    all_goals
     go_wp2;go_meet;exact⟨_,rfl,rfl,(by first|exact za (Jb R _) 2 _ rfl|exact za (zm (zm (zm (zm a 0 _) 1 _) 2 _) 3 _) 2 _ rfl),(by(repeat(first|exact bZ|refine Jh ?_|refine zk ?_ _|refine setI ?_ (by omega) _|refine ze ?_ d|refine ze ?_ f)))⟩
   case rest =>
   obtain⟨B,rfl,rfl,L,i⟩:=hcut;have M:=(g _ i).2.2.1
   by_cases g5:F m=p.B m
   ·have J:=Jd g5
    have o:=hI g5;clear g5
    by_cases g6:many=p.B m
    ·have e6:(p.B m == many)=true:=by simpa using g6.symm
     have H:=hI g6;clear g6;go_wp2;go_ret;exact⟨zR ⟨by rw[s.out];exact E,λ_=>⟨o,H⟩,λh=>(by cases h)⟩,ze k i⟩
    ·have e6:(p.B m == many)=false:=by simp;exact λh=>g6 h.symm
     have H:=hI g6;clear g6;go_wp2;go_ret;exact⟨zl (λh=>H (h.2.1 rfl).2),ze k i⟩
   ·have J:=Jc g5
    have o:=hI g5;clear g5;go_wp2;go_ret;exact⟨zl (λh=>o (h.2.1 rfl).1),ze k i⟩
 ·have Z:=Jc h3
  have E:=hI h3;clear h3;go_wp2_with (first|(go_at_call 191;refine sC (zz _ _ _ _) ?_))
  go_ret;exact⟨zl (λh=>E (by have:=h.1;rw[s.out] at this;exact this)),j⟩
theorem zgS (c d f x:Int)(g:Bool)(a:Nat)(w:World)(i:w.cell? (a,0)=some (int i64 x)) :
  Calls prog 272 #[.agg #[c,d,f,g],.pointer (some (a,0))] w λe w'=>e=.returned (.bool (c == x))/\Below w.heap.size w w':=by
 have b:=Ja w _ i;have h:¬ a=w.heap.size:=by have:a<w.heap.size:=b;omega
 go_enter func272,ntmps272;go_wp2;go_ret;exact⟨rfl,zk bZ _⟩
theorem ziP (t:Option Addr)(n c:Nat)(S:Nat->qN)(x:Int)(h:Nat)(w:World)(hn:n<=1048576)(z:qp w t n S)(r:w.cell? (h,0)=some (int i64 x)) :
  Calls prog 271 #[(t,n,c),.func (.func 272) #[] #[.pointer (some (h,0))]] w λe w'=>e=.returned (Zv (ZV S) x n)/\Below w.heap.size w w':=by
 have q:=Ja w _ r;go_enter func271,ntmps271;go_wp2;go_loopw [5,8] (λ_ i wr=>∃ k,k<=n/\i=int i64 k/\(∀ j,j<k->ZV S j≠x)/\Below w.heap.size w wr) (λ_ i _=>n - (intOf i).toNat)
 case atStart=>exact⟨0,Jq _,rfl,λj y=>by omega,bZ⟩
 case round =>
  obtain⟨k,hk,rfl,d,a⟩:=hrel;have l:=hI d;clear d
  by_cases hlt2:k<n
  ·obtain⟨b,off,rfl,o,h1,h2,h3⟩:=z k hlt2
   have g:=Ja w _ o;have c0:=(a.cell g).trans o;have c1:=(a.cell (p:=⟨b,_+1,_⟩) g).trans h1;have c2:=(a.cell (p:=⟨b,_+2,_⟩) g).trans h2;have c3:=(a.cell (p:=⟨b,_+3,_⟩) g).trans h3;have s:=hI ((a.cell q).trans r);clear o h1 h2 h3 r
   by_cases he:ZV S k=x
   ·have v:((S k).who == x)=true:=by unfold ZV at he;simpa using he
    have m:Hid (Zv (ZV S) x n=k):=by
     have:=zfe hlt2 he l;unfold Zv Hid;rw[this,Jf hlt2]
    clear he;go_wp2_with (first|(go_at_call 272;refine(zgS _ _ _ x _ h _ s).mono ?_;rintro e A ⟨rfl,f⟩))
    go_ret;exact⟨by rw[m.out];rfl,ze a f⟩
   ·have v:((S k).who == x)=false:=by unfold ZV at he;simpa using he
    have u:=hI he;clear he;go_wp2_with (first|(go_at_call 272;refine(zgS _ _ _ x _ h _ s).mono ?_;rintro e A ⟨rfl,f⟩))
    go_roundw
    case rel=>exact⟨k+1,by omega,by go_num,λj y=>by
     by_cases e:j=k
     ·subst e;exact u
     ·exact l j (by omega),ze a f⟩
    case measure=>simp[intOf];omega
  ·obtain rfl:k=n:=by omega
   have m:=hI (zbM (zdp l));go_wp2;go_ret;exact⟨by rw[m.out];rfl,a⟩
/-- roomOf: where the stay of the by stands, -1 Zx one. -/
theorem QF (b:Option Addr)(n c:Nat)(S:Nat->qN)(x:Int)(w:World)(i:n<=1048576)(j:qp w b n S) :
  Calls prog 244 #[(b,n,c),x] w λe w'=>e=.returned (Zv (ZV S) x n)/\Below w.heap.size w w':=by
 have a:Below _ w (w.alloc (.cells #[x] 3)):=zk bZ _;have g:=hI (j.below a);have f:Hid ((w.alloc (.cells #[_] 3)).cell? _=some (int i64 x)):=za (Jb w _) 0 _ rfl;have h:∀ (fn) (first cap) (w),(Instr.makeFunc fn _ cap).run prog w=.ok (.func fn first cap) w:=λ_ _ _ _=>rfl
 go_enter func244,ntmps244;go_wp2_with (first|(go_at_call 271;refine(ziP b n c S x _ _ i g f).mono ?_;rintro e w2 ⟨rfl,d⟩))
 go_ret;exact⟨rfl,ze a d⟩
theorem zef (o:Option Addr)(n c:Nat)(p:zH)(w:World)(s:p.n=n)(hn:n<=1048576)(v:zG w o p) :
  Calls prog 235 #[(o,n,c)] w λe w'=>qX (zaZ p 6 1 3 1 4) e/\Below w.heap.size w w':=by
 have f:=hI s;clear s
 by_cases h0:n<=6
 ·have q:decide (6<n)=false:=by simp;omega
  go_enter func235,ntmps235;go_wp2;go_loopw [4,10] (λ_ i wr=>∃ k,k<=n/\i=int i64 k/\(∀ j,j<k->In (p.A j) 1 3/\In (p.B j) 1 4)/\Below w.heap.size w wr) (λ_ i _=>n - (intOf i).toNat)
  case atStart=>exact⟨0,Jq _,rfl,λj l=>by omega,bZ⟩
  case round =>
   obtain⟨k,hk,rfl,d,a⟩:=hrel;have m:=hI d;clear d q
   by_cases hlt:k<n
   ·obtain⟨b,off,rfl,h1,h2⟩:=v k (by rw[f.out];omega)
    have r:=Ja w _ h1;have c1:=(a.cell r).trans h1;have c2:=(a.cell (p:=⟨b,_+1,_⟩) r).trans h2;clear h1 h2
    by_cases g1:In (p.A k) 1 3
    ·have t:=Jd g1
     by_cases g2:In (p.B k) 1 4
     ·have u:=Jd g2
      have g:Hid (_/\_):=⟨g1,g2⟩;clear g1 g2;go_wp2_with (first|(go_at_call 262;refine sC (zbr _ _) ?_)|(go_at_call 263;refine sC (zdj _ _) ?_))
      go_roundw
      case rel=>exact⟨k+1,by omega,by go_num,λj l=>by
       by_cases e:j=k
       ·subst e;exact g
       ·exact m j (by omega),zk a _⟩
      case measure=>simp[intOf];omega
     ·have u:=Jc g2
      have g:=hI g2;clear g1 g2;go_wp2_with (first|(go_at_call 262;refine sC (zbr _ _) ?_)|(go_at_call 263;refine sC (zdj _ _) ?_))
      go_ret;exact⟨zl (λh=>g (h.2 k (by rw[f.out];exact hlt)).2),zk a _⟩
    ·have t:=Jc g1
     have g:=hI g1;clear g1;go_wp2_with (first|(go_at_call 262;refine sC (zbr _ _) ?_)|(go_at_call 263;refine sC (zdj _ _) ?_))
     go_ret;exact⟨zl (λh=>g (h.2 k (by rw[f.out];exact hlt)).1),zk a _⟩
   ·obtain rfl:k=n:=by omega
    go_wp2;go_ret;exact⟨zR ⟨by rw[f.out];exact h0,λj l=>m j (by rw[f.out] at l;exact l)⟩,a⟩
 ·have q:decide (6<n)=true:=by simp;omega
  go_enter func235,ntmps235;go_wp2;go_ret;exact⟨zl (λh=>by have:=h.1;rw[f.out] at this;exact h0 this),bZ⟩
def zmI (p:zH)(n:Nat)(S:Nat->qN)(e:Ending):Prop :=
 (zkq p n S/\e=.returned (.tuple #[six (Zl p S n),.bool true]))∨(¬ zkq p n S/\e=.returned (.tuple #[six (λ_=>0),.bool false]))
theorem zfr {w:World}{g t:Nat}{u0 u1 u2 u3 u4 u5:Value}(h:w.heap[g]?=some (.cells #[u0,u1,u2,u3,u4,u5] t (0,0)))(v0 v1 v2 v3 v4 v5:Value) :
  ((((((w.setCell (g,0) v0).setCell (g,1) v1).setCell (g,2) v2).setCell (g,3) v3).setCell (g,4) v4).setCell (g,5) v5).heap[g]?=some (.cells #[v0,v1,v2,v3,v4,v5] t (0,0)):=by
 have:=zm (zm (zm (zm (zm (zm h 0 v0) 1 v1) 2 v2) 3 v3) 4 v4) 5 v5
 simpa using this
theorem zcy {w w':World}{g:Nat}(h:Below w.heap.size w w')(a:w.heap.size<=g)(v0 v1 v2 v3 v4 v5:Value):Below w.heap.size w ((((((w'.setCell (g,0) v0).setCell (g,1) v1).setCell (g,2) v2).setCell (g,3) v3).setCell (g,4) v4).setCell (g,5) v5) :=
 (((((h.setCell a _).setCell a _).setCell a _).setCell a _).setCell a _).setCell a _
theorem zero_row6 {w:World}{g t:Nat}(h:w.heap[g]?=some (.cells #[(),(),(),(),(),()] t (0,0))):w.rowIs g t 6 (λk=>int i64 (zbJ 0 (λ_=>(0:Int)) 0 k)):=by
 refine⟨_,h,rfl,λi hi=>?_⟩
 have:i=0∨i=1∨i=2∨i=3∨i=4∨i=5:=by omega
 rcases this with rfl|rfl|rfl|rfl|rfl|rfl <;> rfl
theorem zbh (ao bo:Option Addr)(m mc n c:Nat)(p:zH)(S:Nat->qN)(w:World)(hl:p.n=m)(hm:m<=1048576)(hn:n<=1048576)(hc:n<=c)(hx:zG w ao p)(hz:qp w bo n S) :
  Calls prog 237 #[(ao,m,mc),(bo,n,c)] w λe w'=>zmI p n S e/\Below w.heap.size w w':=by
 have V:=hI hl;have HX:=hI hx;have HZ:=hI hz;clear hl hx hz;have Z:Below _ w (w.alloc (.cells #[(),(),(),(),(),()] 323)):=zk bZ _;have r0:(w.alloc _).heap[w.heap.size]?=some (.cells #[(),(),(),(),(),()] 323 (0,0)):=Jb w _;go_enter func237,ntmps237;go_wp2_with fail;refine(zef ao m mc p _ V hm (HX.below Z)).mono ?_;rintro e w1 ⟨⟨q,rfl,hq⟩,a0⟩;have N:=ze Z a0;have P:=zb r0 a0;clear Z r0 a0
 cases q with
 | false =>
  have R:Hid (¬ zgt p):=λh=>by have:=hq.2 h;cases this
  clear hq;obtain⟨o0,o1,o2,o3,o4,o5⟩:=ce6 P;obtain⟨f0,f1,f2,f3,f4,f5⟩:=fe6 P;go_wp2;have K:=zfr P () () () () () ();obtain⟨D,E,F,H,I,J⟩:=ce6 K;exact Jj (by simp[results,results237,go_sem,D,E,F,H,I,J,six]) rfl ⟨.inr ⟨λh=>R h.1,rfl⟩,zcy N (Jr _) _ _ _ _ _ _⟩
 | true =>
  have R:Hid (zgt p):=hq.1 rfl;have b7:m<=6:=by rw[← V.out];exact R.1
  clear hq
  by_cases h60:n<=60
  ·have d0:decide (60<n)=false:=by simp;omega
   go_upto_region 4 with fail;have r2:=zd P (.cells #[(),(),(),(),(),()] 323);have x2:=zero_row6 (Jb w1 (.cells _ 323));have X:=zk N (.cells #[(),(),(),(),(),()] 323);have hf:=zM P;generalize w1.alloc _=w2 at r2 x2 X ⊢;generalize w1.heap.size=f at hf x2 ⊢;clear P N;go_wp2;go_loopw [7,8,22] (λ_ _ i wr=>∃ k,k<=m/\i=int i64 k/\wr.rowIs f 323 6 (λj=>int i64 (zbJ k p.B 0 j))/\wr.heap[w.heap.size]?=some (.cells #[(),(),(),(),(),()] 323 (0,0))/\Below w.heap.size w wr) (λ_ _ i _=>m - (intOf i).toNat)
   case atStart=>exact⟨0,Jq _,rfl,x2.congr (λj _=>by unfold zbJ;rw[Je (Nat.not_lt_zero _),Je (Nat.not_lt_zero _)]),r2,X⟩
   case round =>
    obtain⟨k,hk,rfl,x,hr,t⟩:=hrel;clear r2 x2 X
    by_cases hlt:k<m
    ·obtain⟨b,off,rfl,h1,h2⟩:=HX k (by rw[V.out];exact hlt)
     have Y:=Ja w _ h1;have c1:=(t.cell Y).trans h1;have c2:=(t.cell (p:=⟨b,_+1,_⟩) Y).trans h2;have i1:(0:Int)<=(k:Int):=by omega
     have i2:(k:Int)<6:=by omega
     have C:=qo x (zk (Ji _ wr) (.cells #[(p.A k),(p.B k)] 231));have a5:=zd hr (.cells #[(p.A k),(p.B k)] 231);have a2:=Jb wr (.cells #[(p.A k),(p.B k)] 231);have a1:=zk t (.cells #[(p.A k),(p.B k)] 231);clear h1 h2;go_upto_region 7 with fail;generalize hW:wr.alloc _=W at C a5 a2 a1 ⊢;clear hW;have o0:=C.cell (i:=k) (by omega)
     have f0:=C.frozen k;have z1:=za a2 1 _ rfl;have b3:=hI C;have b4:=hI a5;have b2:=hI a1;clear C a5 a2 a1 x hr t c1 c2;go_wp2;go_roundw
     case rel=>exact⟨k+1,by omega,by go_num,(b3.set k _).congr (λj _=>by
      by_cases e:j=k
      ·subst e;rw[Jf rfl,qr _ _ (Nat.lt_succ_self _)]
      ·rw[Je e,QB _ _ _ _ e]),zD b4 _ _ (by omega),b2.setCell (by show w.heap.size<=f;omega) _⟩
     case measure=>simp[intOf];omega
    ·obtain rfl:k=m:=by omega
     have B:wr.rowIs f 323 6 (λj=>.int _ (Zl p S 0 j)):=x.congr (λj _=>by rw[freeR_0,V.out])
     clear x;go_wp2;go_loopw [9,10,34] (λ_ _ i wr=>∃ k,k<=n/\i=int i64 k/\(∀ j,j<k->In (S j).who 1 9999/\¬ Has (ZV S) j (S j).who/\zbE p (Za p S j) (S j))/\wr.rowIs f 323 6 (λj=>int i64 (Zl p S k j))/\wr.heap[w.heap.size]?=some (.cells #[(),(),(),(),(),()] 323 (0,0))/\Below w.heap.size w wr) (λ_ _ i _=>n - (intOf i).toNat)
     case atStart=>exact⟨0,Jq _,rfl,λj hj=>by omega,B,hr,t⟩
     case round =>
      obtain⟨i,hi,rfl,T,a,A,d⟩:=hrel;have HA:=hI T;clear T B hr t
      by_cases hlt2:i<n
      ·obtain⟨b,off,rfl,h0,h1,h2,h3⟩:=HZ i hlt2
       have Y:=Ja w _ h0;have c0:=(d.cell Y).trans h0;have c1:=(d.cell (p:=⟨b,_+1,_⟩) Y).trans h1;have c2:=(d.cell (p:=⟨b,_+2,_⟩) Y).trans h2;have c3:=(d.cell (p:=⟨b,_+3,_⟩) Y).trans h3;have o:=Jb wr (.cells #[(S i).who,(S i).cab,(S i).many,(S i).all] 228);have r:=zk d (.cells #[(S i).who,(S i).cab,(S i).many,(S i).all] 228);have z:=zd A (.cells #[(S i).who,(S i).cab,(S i).many,(S i).all] 228);have s:=qo a (zk (Ji _ wr) (.cells #[(S i).who,(S i).cab,(S i).many,(S i).all] 228));clear h0 h1 h2 h3;go_upto_region 12 with fail;generalize hW:wr.alloc _=W at o r z s ⊢;clear hW;have O:=zM o;have y:=s.lt;have b0:=hI s;have z0:∀ g:zn W,g.val.cell? _=some (.int _ _):=λg=>(g.bel.cell O).trans (za o 0 _ rfl)
       have z1:∀ g:zn W,g.val.cell? _=some (.int _ _):=λg=>(g.bel.cell O).trans (za o 1 _ rfl)
       have z2:∀ g:zn W,g.val.cell? _=some (.int _ _):=λg=>(g.bel.cell O).trans (za o 2 _ rfl)
       have z3:∀ g:zn W,g.val.cell? _=some (.bool _):=λg=>(g.bel.cell O).trans (za o 3 _ rfl)
       have y0:∀ g:zn W,_:=λg=>(g.bel.cell y).trans (s.cell (i:=0) (by omega))
       have y1:∀ g:zn W,_:=λg=>(g.bel.cell y).trans (s.cell (i:=1) (by omega))
       have y2:∀ g:zn W,_:=λg=>(g.bel.cell y).trans (s.cell (i:=2) (by omega))
       have y3:∀ g:zn W,_:=λg=>(g.bel.cell y).trans (s.cell (i:=3) (by omega))
       have y4:∀ g:zn W,_:=λg=>(g.bel.cell y).trans (s.cell (i:=4) (by omega))
       have y5:∀ g:zn W,_:=λg=>(g.bel.cell y).trans (s.cell (i:=5) (by omega))
       have i1:(0:Int)<=(i:Int):=by omega
       have i2:(i:Int)<=(c:Int):=by omega
       clear c0 c1 c2 c3 o a A d s
       by_cases g1:In (S i).who 1 9999
       ·have e1:=Jd g1
        have H1:=hI g1;clear g1
        by_cases hh:Has (ZV S) i (S i).who
        ·have e2:=Jd ((QC _ _ _).2 hh)
         have HH:=hI hh;clear hh;refine zh (by kernel_rfl) (by kernel_rfl) ?_
         repeat(first|go_big_quiet_skip|(go_big_quiet_want;go_big_quiet_op;first|go_big_quiet_on|(apply Jg;refine⟨λg=>?_,?_⟩;(focus(first|(go_at_call 102;refine zf (v:=.bool true) ((Qg _ _).mono ?_);rintro e U ⟨rfl,rfl⟩;exact⟨by rw[e1],bZ⟩)|(go_at_call 244;refine zf (v:=int i64 (Zv (ZV S) (S i).who i)) ((QF _ i c S _ _ (by omega) ((HZ.upto (by omega)).below (ze r g.bel))).mono ?_);rintro e U ⟨rfl,u⟩;exact⟨rfl,u⟩)));go_big_quiet_on)))
         refine Jl ?_;rintro _ ⟨g,rfl⟩;have L:=zb z g.bel;obtain⟨o0,o1,o2,o3,o4,o5⟩:=ce6 L;obtain⟨f0,f1,f2,f3,f4,f5⟩:=fe6 L;go_wp2;have K:=zfr L () () () () () ();obtain⟨D,E,F,H,I,J⟩:=ce6 K;exact Jj (by simp[results,results237,go_sem,D,E,F,H,I,J,six]) rfl ⟨.inr ⟨λh=>(h.2.2 i hlt2).2.1 HH,rfl⟩,zcy (ze r g.bel) (Jr _) _ _ _ _ _ _⟩
        ·have e2:=Jc (λh=>hh ((QC _ _ _).1 h))
         have HH:=hI hh;clear hh
         by_cases hfit:zbE p (Zl p S i) (S i)
         ·have M:=hI hfit
          clear hfit;refine zh (by kernel_rfl) (by kernel_rfl) ?_
          repeat(first|go_big_quiet_skip|(go_big_quiet_want;go_big_quiet_op;first|go_big_quiet_on|(apply Jg;refine⟨λg=>?_,?_⟩;(focus(first|(go_at_call 102;refine zf (v:=.bool true) ((Qg _ _).mono ?_);rintro e U ⟨rfl,rfl⟩;exact⟨by rw[e1],bZ⟩)|(go_at_call 244;refine zf (v:=int i64 (Zv (ZV S) (S i).who i)) ((QF _ i c S _ _ (by omega) ((HZ.upto (by omega)).below (ze r g.bel))).mono ?_);rintro e U ⟨rfl,u⟩;exact⟨rfl,u⟩)|(go_at_call 265;refine zf (v:=.bool true) ((zfI _ _ mc p _ _ _ _ _ _ V R (HX.below (ze r g.bel))).mono ?_);rintro e U ⟨⟨bb,rfl,hi⟩,u⟩;obtain rfl:=hi.2 M;exact⟨rfl,u⟩)));go_big_quiet_on)))
          refine Jl ?_;rintro _ ⟨g,rfl⟩;obtain⟨l,hl⟩:∃ l:Nat,(S i).cab=l:=⟨(S i).cab.toNat,by have:=M.1;unfold In at this;omega⟩
          have a3:l<p.n:=by have:=M.1;unfold In at this;omega
          have a7:=hI hl;have l4:l<6:=by have:=V.out;omega
          have v1:g.val.cell? ⟨wr.heap.size,1,none⟩=some (int i64 (l:Int)):=by rw[z1 g,hl]
          have v2:=z2 g;have Q:=qo b0 g.bel;have v3:=Q.cell l4;have v4:=Q.frozen l;have l1:(0:Int)<=(l:Int):=by omega
          have l2:(l:Int)<6:=by omega
          have b8:IntKind.i64.wrap (Zl p S i l - (S i).many)=Zl p S i l - (S i).many:=by
           have st:=zgM (n:=i+1) R (λj hj=>by
            by_cases e:j=i
            ·subst e;exact zem.1 M
            ·exact(HA j (by omega)).2.2)
           have h1:=zdq R (show i<=60 by omega) (st i (by omega)).1 a3
           have h2:=(st _ (Jr _)).1 i (by omega)
           unfold In at h2;rw[zcN a3,Jk];omega
          have a8:=hI (zb z g.bel);have a6:=hI (ze r g.bel);have a9:=hI Q;clear hl Q z0 z1 z2 z3 y0 y1 y2 y3 y4 y5 z r;generalize g.val=G at *;go_upto_region 14 with fail;have a4:Hid ((G.setCell (f,l) (int i64 (Zl p S i l - (S i).many))).drew.rowIs f 323 6 (λj=>int i64 (Zl p S (i+1) j))):=by
           refine(a9.set l _).congr (λj _=>?_)
           rw[← znm p S i l j a3 a7.out]
           split <;> rfl
          have b6:Hid ((G.setCell ⟨f,l,_⟩ (int i64 (Zl p S i l - (S i).many))).drew.heap[w.heap.size]?=_):=zK (zD a8 _ _ (by omega))
          have b5:Hid (Below _ w (G.setCell (f,l) (int i64 (Zl p S i l - (S i).many))).drew):=(a6.setCell (by show w.heap.size<=f;omega) _).drew
          have b1:Hid (∀ j,j<i+1->In (S j).who 1 9999/\¬ Has _ j (S j).who/\zbE p _ _):=λj hj=>by
           by_cases e:j=i
           ·subst e;exact⟨H1,HH,zem.1 M⟩
           ·exact HA j (by omega)
          clear HH M HA a7 a8 a6 a9 b0;go_region
          all_goals (go_wp2;go_roundw)
          all_goals first|(exact⟨_,by omega,by go_num,b1,a4,b6,b5⟩)|(simp[intOf];omega)
         ·have M:=hI hfit
          clear hfit;refine zh (by kernel_rfl) (by kernel_rfl) ?_
          repeat(first|go_big_quiet_skip|(go_big_quiet_want;go_big_quiet_op;first|go_big_quiet_on|(apply Jg;refine⟨λg=>?_,?_⟩;(focus(first|(go_at_call 102;refine zf (v:=.bool true) ((Qg _ _).mono ?_);rintro e U ⟨rfl,rfl⟩;exact⟨by rw[e1],bZ⟩)|(go_at_call 244;refine zf (v:=int i64 (Zv (ZV S) (S i).who i)) ((QF _ i c S _ _ (by omega) ((HZ.upto (by omega)).below (ze r g.bel))).mono ?_);rintro e U ⟨rfl,u⟩;exact⟨rfl,u⟩)|(go_at_call 265;refine zf (v:=.bool false) ((zfI _ _ mc p _ _ _ _ _ _ V R (HX.below (ze r g.bel))).mono ?_);rintro e U ⟨⟨bb,rfl,hi⟩,u⟩;obtain rfl:=Bool.eq_false_iff.2 (λe=>M (hi.1 e));exact⟨rfl,u⟩)));go_big_quiet_on)))
          refine Jl ?_;rintro _ ⟨g,rfl⟩;have L:=zb z g.bel;obtain⟨o0,o1,o2,o3,o4,o5⟩:=ce6 L;obtain⟨f0,f1,f2,f3,f4,f5⟩:=fe6 L;go_wp2;have K:=zfr L () () () () () ();obtain⟨D,E,F,H,I,J⟩:=ce6 K;exact Jj (by simp[results,results237,go_sem,D,E,F,H,I,J,six]) rfl ⟨.inr ⟨λh=>M (zem.2 (h.2.2 i hlt2).2.2),rfl⟩,zcy (ze r g.bel) (Jr _) _ _ _ _ _ _⟩
       ·have e1:=Jc g1
        have H1:=hI g1;clear g1;refine zh (by kernel_rfl) (by kernel_rfl) ?_
        repeat(first|go_big_quiet_skip|(go_big_quiet_want;go_big_quiet_op;first|go_big_quiet_on|(apply Jg;refine⟨λg=>?_,?_⟩;(focus(first|(go_at_call 102;refine zf (v:=.bool false) ((Qg _ _).mono ?_);rintro e U ⟨rfl,rfl⟩;exact⟨by rw[e1],bZ⟩)));go_big_quiet_on)))
        refine Jl ?_;rintro _ ⟨g,rfl⟩;have L:=zb z g.bel;obtain⟨o0,o1,o2,o3,o4,o5⟩:=ce6 L;obtain⟨f0,f1,f2,f3,f4,f5⟩:=fe6 L;go_wp2;have K:=zfr L () () () () () ();obtain⟨D,E,F,H,I,J⟩:=ce6 K;exact Jj (by simp[results,results237,go_sem,D,E,F,H,I,J,six]) rfl ⟨.inr ⟨λh=>H1 (h.2.2 i hlt2).1,rfl⟩,zcy (ze r g.bel) (Jr _) _ _ _ _ _ _⟩
      ·obtain rfl:i=n:=by omega
       obtain⟨o0,o1,o2,o3,o4,o5⟩:=ce6 A;obtain⟨f0,f1,f2,f3,f4,f5⟩:=fe6 A;have c0:=a.cell (i:=0) (by omega)
       have c1:=a.cell (i:=1) (by omega)
       have c2:=a.cell (i:=2) (by omega)
       have c3:=a.cell (i:=3) (by omega)
       have c4:=a.cell (i:=4) (by omega)
       have c5:=a.cell (i:=5) (by omega)
       go_wp2;have K:=zfr A (Zl p S i 0) (Zl p S i 1) (Zl p S i 2) (Zl p S i 3) (Zl p S i 4) (Zl p S i 5);obtain⟨D,E,F,H,I,J⟩:=ce6 K;exact Jj (by simp[results,results237,go_sem,D,E,F,H,I,J,six]) rfl ⟨.inl ⟨⟨R,h60,HA⟩,rfl⟩,zcy d (Jr _) _ _ _ _ _ _⟩
  ·have d0:decide (60<n)=true:=by simp;omega
   obtain⟨o0,o1,o2,o3,o4,o5⟩:=ce6 P;obtain⟨f0,f1,f2,f3,f4,f5⟩:=fe6 P;go_wp2;have K:=zfr P () () () () () ();obtain⟨D,E,F,H,I,J⟩:=ce6 K;exact Jj (by simp[results,results237,go_sem,D,E,F,H,I,J,six]) rfl ⟨.inr ⟨λh=>h60 h.2.1,rfl⟩,zcy N (Jr _) _ _ _ _ _ _⟩
end Go.Proofs.YtmdnjgihooflfaaGreatDoor

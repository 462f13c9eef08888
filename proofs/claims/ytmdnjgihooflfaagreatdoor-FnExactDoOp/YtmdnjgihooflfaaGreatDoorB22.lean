/-
  OWN TEXT: RowsI, ConcatI, RouteI, SettE, Kit3, StepOwn, SpecOld.
-/
import Derived.Deep.RegionHeld3
import Derived.Test.YtmdnjgihooflfaaGreatDoorKitCo
import Derived.Deep.LoopGhost
import Derived.Lib.AppendZeros
import Derived.Deep.DeepCutAuto
import Derived.Deep.RegionLawGrows
import Derived.Deep.AppendLies
import Derived.Test.YtmdnjgihooflfaaGreatDoorB21
namespace Go.Proofs.YtmdnjgihooflfaaGreatDoor
open Go.RowKit
open Go.Value (int)
open Go.IntKind (i64)
open Tryz
set_option maxHeartbeats 64000000
set_option maxRecDepth 100000
section
variable{q:Int}{n g t:Nat}{w:World}{u0 u1 u2:Value}
open Go.RowKit Classical
theorem lastLn_no {S:Nat->Zp}(h:∀ j,j<n->(S j).who≠q):zas S q n=-1:=by
 induction n with
 | zero=>rfl
 | succ n ih=>rw[zas,Je (h n (by omega)),ih (λj hj=>h j (by omega))]
theorem lastLn_is {S:Nat->Zp}{i:Nat}(hi:i<n)(a:(S i).who=q)(h:∀ j,j<n->(S j).who=q->j=i):zas S q n=(S i).ln:=by
 induction n with
 | zero=>omega
 | succ n ih =>
  by_cases c:(S n).who=q
  ·rw[zas,Jf c,h n (by omega) c]
  ·rw[zas,Je c]
   exact ih (by have:i≠n:=λe=>c (e ▸ a);omega) (λj hj=>h j (by omega))
theorem znJ {S:Nat->qN}(h:∀ j,j<n->(S j).who≠q):QA S q n=-1:=by
 induction n with
 | zero=>rfl
 | succ n ih=>rw[QA,Je (h n (by omega)),ih (λj hj=>h j (by omega))]
theorem znK {S:Nat->qN}{i:Nat}(hi:i<n)(a:(S i).who=q)(h:∀ j,j<n->(S j).who=q->j=i):QA S q n=(S i).cab:=by
 induction n with
 | zero=>omega
 | succ n ih =>
  by_cases c:(S n).who=q
  ·rw[QA,Jf c,h n (by omega) c]
  ·rw[QA,Je c]
   exact ih (by have:i≠n:=λe=>c (e ▸ a);omega) (λj hj=>h j (by omega))
theorem lane_ix {s:Zj}{l:zY}(h:qm s l)(q:Int):zas l.st q l.stn=if zaj (Qc l.st) q l.stn<l.stn then (l.st (zaj (Qc l.st) q l.stn)).ln else -1:=by
 have u1:∀ i,_->¬ Has _ i (Qc _ i):=λi b=>(h.1.2.2.1 i b).2.2.2.2
 by_cases c:zaj (Qc l.st) q l.stn<l.stn
 ·rw[Jf c];exact lastLn_is c (zdn _ q _ c) (λj a e=>(zeJ u1 a e).symm)
 ·rw[Je c];exact lastLn_no (λj a e=>c ((zdo _ _ _).1 ⟨j,a,e⟩))
theorem cab_ix {s:Zj}{l:zY}(h:qm s l)(q:Int):QA l.ro q l.ron=if zaj (ZV l.ro) q l.ron<l.ron then (l.ro (zaj (ZV l.ro) q l.ron)).cab else -1:=by
 have u1:∀ i,_->¬ Has _ i (ZV _ i):=λi b=>(h.2.1.2.2.1 i b).1.2.1
 by_cases c:zaj (ZV l.ro) q l.ron<l.ron
 ·rw[Jf c];exact znK c (zdn _ q _ c) (λj a e=>(zeJ u1 a e).symm)
 ·rw[Je c];exact znJ (λj a e=>c ((zdo _ _ _).1 ⟨j,a,e⟩))
theorem rowsL_on (l:zY)(S:Nat->ql)(z:Int)(n:Nat):(Qn l S z n).length=(onL (λi=>OnB (S i) z) n).length/\∀ j,j<(onL (λi=>OnB (S i) z) n).length->zeM (Qn l S z n) j=zhD l (S (onI (λi=>OnB (S i) z) n j)):=by
 induction n with
 | zero=>exact⟨rfl,λj a=>by simp[onL] at a⟩
 | succ n ih =>
  obtain⟨c,f⟩:=ih
  by_cases h:OnB (S n) z
  ·have d:OnZ _ z:=h
   rw[zeL d,zbZ h,List.length_append,List.length_append,c];refine⟨rfl,λj a=>?_⟩
   by_cases e:j=(onL (λi=>OnB (S i) z) n).length
   ·subst e
    rw[zdV _ h];unfold zeM;rw[← c];simp
   ·have b:j<(onL (λi=>OnB (S i) z) n).length:=by simp at a;omega
    rw[zcQ _ b,← f j b];unfold zeM;rw[List.getD_eq_getElem?_getD,List.getD_eq_getElem?_getD,List.getElem?_append_left (by omega)]
  ·have d:¬ OnZ _ z:=h
   rw[zdW d,zfJ h];exact⟨c,λj a=>by rw[zcQ _ a,← f j a]⟩
theorem rowLn_set {u3 u4:Value}(h:w.heap[g]?=some (.cells #[u0,u1,u2,u3,u4] t (0,0)))(v:Value):(w.setCell (g,3) v).heap[g]?=some (.cells #[u0,u1,u2,v,u4] t (0,0)):=by simpa using zm h 3 v
theorem zib {u3 u4:Value}(h:w.heap[g]?=some (.cells #[u0,u1,u2,u3,u4] t (0,0)))(v:Value):(w.setCell (g,4) v).heap[g]?=some (.cells #[u0,u1,u2,u3,v] t (0,0)):=by simpa using zm h 4 v
theorem znL (x:Off)(h6 h4 S:Option Addr)(a7 d5 a1 k:Nat)(w:World)(hs:Off.Short x 1048576)(i4:qB w h6 x.san x.sa)(d6:ZG w h4 x.ldn x.ld)(j9:qO w S x.bkn x.bk)(k3:x.bkn<=30)(k4:k<x.san)(k5:x.ldn=x.san)(f9:qm (x.sa k) (x.ld k)) :
  Calls prog 204 #[.agg #[.slice h6 x.san a7,.slice h4 x.ldn d5,.slice S x.bkn a1],int i64 k] w λe w'=>(∃ v,e=.returned v/\w'.ownsRow w.heap.size 203 5 v (Qn (x.ld k) x.bk (x.sa k).id x.bkn).length (qW (zeM (Qn (x.ld k) x.bk (x.sa k).id x.bkn)) (Qn (x.ld k) x.bk (x.sa k).id x.bkn).length))/\Below w.heap.size w w':=by
 obtain⟨j0,ji,d9,e0,e1⟩:=info_parts Tryz.infoRow;have g9:=hI hs;obtain⟨sb,so,_,_,_,_,rfl,f0,_⟩:=i4 k k4;obtain⟨zi,i6⟩:∃ z,z=(x.sa k).id:=⟨_,rfl⟩;rw[← i6] at f0 ⊢;have k9:sb<w.heap.size:=Ja w _ f0;obtain⟨D,hD,hJ⟩:=d6;obtain⟨lb,lo,rfl,M⟩:=hD k (by omega)
 obtain⟨l,d6⟩:∃ l,l=x.ld k:=⟨_,rfl⟩;obtain⟨a0,a3,Z,a2,b2,b4,L,g4,i9,g3,i7,i5,i8⟩:=hJ k (by omega)
 have d7:=hs.2.1.2 k (by omega)
 rw[← d6] at L g4 i9 g3 i7 i5 i8 d7 f9 ⊢;have n2:=d7.1;have n3:=d7.2.1;have g5:lb<w.heap.size:=Ja w _ (M 0 (by decide))
 have h0:=hI g4;have d4:=hI g3;have g8:=hI f9;obtain⟨C,hC,hI⟩:=j9;have HC:=hI hC;have HI:Hid _:=hI;have g7:Hid _:=f0;have d0:∀ o,(w.alloc o).cell? _=some (.slice a0 _ a3):=λo=>((zk (Ji _ w) o).cell (p:=⟨lb,lo+_,_⟩) g5).trans (by have:=M 0 (by decide);rw[L] at this;exact this)
 have d1:∀ o,(w.alloc o).cell? _=some (.slice Z _ a2):=λo=>((zk (Ji _ w) o).cell g5).trans (by have:=M 1 (by decide);rw[L] at this;exact this)
 have d2:∀ o,(w.alloc o).cell? _=some (.slice b2 _ b4):=λo=>((zk (Ji _ w) o).cell g5).trans (by have:=M 2 (by decide);rw[L] at this;exact this)
 obtain⟨P,hP⟩:∃ P,P=λi=>OnB (x.bk i) zi:=⟨_,rfl⟩
 obtain⟨m,d8⟩:∃ m,m=(onL P x.bkn).length:=⟨_,rfl⟩;have l0:m<=30:=by rw[d8];exact Jp (onL_le P _) k3
 have e8:Hid _:=d8;have e4:Hid ((Qn l x.bk zi x.bkn).length=m/\∀ j,j<m->zeM (Qn l x.bk zi x.bkn) j=zhD l (x.bk (onI P x.bkn j))):=by
  show _/\_
  rw[d8,hP];exact rowsL_on l _ zi _
 obtain⟨B,e9⟩:∃ B,B=λj=>x.bk (onI P x.bkn j):=⟨_,rfl⟩
 obtain⟨C',f1⟩:∃ C',C'=λj=>C (onI P x.bkn j):=⟨_,rfl⟩
 have j3:Hid (∀ j,_->ql.Is w (C' j) (B j)):=λj hj=>by
  rw[f1,e9];exact HI _ (zmJ P _ j (by rw[← e8.out];exact hj)).1
 have j4:Hid (∀ j,_->zeM _ j=zhD l (B j)):=λj hj=>by rw[e9];exact e4.2 j hj
 have g6:Hid (∀ w',_->Calls _ 101 _ w' λe w2=>(∃ ao c,e=.returned (.slice ao m c)/\QT w2 ao m 13 C')/\_):=λw' h =>
  (zeg S _ a1 _ C zi w' g9.out.2.2.1 g9.out.2.2.2 (HC.out.below h) (λj hj=>(HI.out j hj).below h)).mono λ_ _ ⟨⟨ao,c,a,_,b⟩,d⟩=>by
   rw[e8.out,f1,hP];exact⟨⟨ao,c,a,QT.of_own b⟩,d⟩
 have k0:(0:Int)<=(k:Int):=by omega
 have k1:(k:Int)<(x.ldn:Int):=by omega
 have k2:(k:Int)<(x.san:Int):=by omega
 clear k5 i4 hD hJ M L g4 i9 g3 i7 i5 i8 d7 hC hI f0 d8 e9 f1 hP hs f9 i6 d6 HC HI e8;have b5:Below _ w ((w.alloc (.cells #[(some (sb,so),x.san,a7),(some (lb,lo),x.ldn,d5),(S,x.bkn,a1)] 38)).alloc (.cells #[(a0,l.stn,a3),(Z,l.ron,a2),(b2,l.sen,b4)] 145)):=zk (zk bZ _) _;have bO:((w.alloc _).alloc (.cells #[(a0,l.stn,a3),(Z,l.ron,a2),(b2,l.sen,b4)] 145)).heap[w.heap.size]?=some (.cells #[(some (sb,so),x.san,a7),(some (lb,lo),x.ldn,d5),(S,x.bkn,a1)] 38 (0,0)):=zd (Jb w _) _;have bL:((w.alloc (.cells #[(some (sb,so),x.san,a7),(some (lb,lo),x.ldn,d5),(S,x.bkn,a1)] 38)).alloc (.cells #[(a0,l.stn,a3),(Z,l.ron,a2),(b2,l.sen,b4)] 145)).heap[w.heap.size+1]?=some (.cells #[(a0,l.stn,a3),(Z,l.ron,a2),(b2,l.sen,b4)] 145 (0,0)):=by simpa using Jb (w.alloc _) _
 go_enter func204,ntmps204;go_upto_region 3 with fail;generalize (w.alloc _).alloc _=X at b5 bO bL ⊢;clear d0 d1 d2;have BW:Hid (∀ w',_->Below _ w w'):=λw' h=>ze b5 h
 have KS:Hid (∀ w',Below _ X w'->(w'.cell? _=some (.slice _ _ a7)/\w'.cell? _=some (.slice S _ a1)/\_)):=λw' h=>by
  have g2:=zb bO h;exact⟨za g2 0 _ rfl,za g2 2 _ rfl,((ze b5 h).cell k9).trans g7⟩
 go_cut [25,26,27] (λv nn i wx=>∃ ao c,v=.slice ao m c/\nn=int i64 m/\i=int i64 0/\QT wx ao m 13 C'/\Below X.heap.size X wx)
 case first =>
  go_region_held3 (λw'=>w'.cell? (w.heap.size,0)=some (some (sb,so),x.san,a7)/\w'.cell? (w.heap.size,2)=some (S,x.bkn,a1)/\w'.cell? (sb,so+k*8)=some (int i64 zi))
   ((refine KS _ ?_;exact(by repeat(first|exact bZ|refine Jh ?_|refine ze ?_ f2))))
   (first|(go_at_call 101;refine Jm (g6 _ (BW _ (by repeat(first|exact bZ|refine Jh ?_|refine ze ?_ f2)))) ?_;rintro e w4 ⟨⟨h5,c4,rfl,k6⟩,f2⟩))
  all_goals
   go_wp2;go_meet;exact⟨h5,c4,rfl,rfl,rfl,QT.below k6 (by repeat(first|exact bZ|refine Jh ?_)),(by repeat(first|exact bZ|refine Jh ?_|refine ze ?_ f2))⟩
 case rest =>
 obtain⟨h5,c4,rfl,rfl,rfl,e6,f4⟩:=hcut;have j5:=hI e6;have T:=ze b5 f4;have h7:=zb bL f4;have V:=hI h7;clear e6 bO bL b5 f4 KS BW g6 g7 h7 k0 k1 k2;obtain⟨R,hR⟩:∃ R,R=λj=>zhD l (B j):=⟨_,rfl⟩
 have HR:Hid (∀ j,R j=_):=λj=>by rw[hR]
 clear hR;go_wp2;go_loopw [5,8,9,10,11,27] (λv _ _ _ _ q wr=>∃ i,i<=m/\q=int i64 i/\wr.ownsRow wc.heap.size 203 5 v i (qW R i)/\Below wc.heap.size wc wr) (λ_ _ _ _ _ q _=>m - (intOf q).toNat)
 case atStart=>exact⟨0,Jq _,rfl,⟨rfl,.inl ⟨rfl,rfl⟩⟩,bZ⟩
 case round =>
  obtain⟨i,hi,rfl,a6,f⟩:=hrel;have i0:=ze T f
  by_cases hlt2:i<m
  ·obtain⟨bb,bo,rfl,M⟩:=j5 i hlt2
   obtain⟨b,f5⟩:∃ b,b=B i:=⟨_,rfl⟩;obtain⟨b1,b3,L,_,_⟩:=j3 i hlt2;rw[← f5] at L;have j2:=hI f5;have G:bb<wc.heap.size:=Ja wc _ (M 0 (by decide))
   have c0:wr.cell? _=some (.int _ _):=(f.cell (p:=⟨bb,bo+_,_⟩) G).trans (by have:=M 0 (by decide);rw[L] at this;exact this)
   have c1:wr.cell? _=some (.int _ _):=(f.cell G).trans (by have:=M 1 (by decide);rw[L] at this;exact this)
   have c2:wr.cell? _=some (.string _):=(f.cell G).trans (by have:=M 2 (by decide);rw[L] at this;exact this)
   have c3:wr.cell? _=some (.slice b1 _ b3):=(f.cell G).trans (by have:=M 3 (by decide);rw[L] at this;exact this)
   have c4:wr.cell? _=some (.int _ _):=(f.cell G).trans (by have:=M 4 (by decide);rw[L] at this;exact this)
   have c5:wr.cell? _=some (.int _ _):=(f.cell G).trans (by have:=M 5 (by decide);rw[L] at this;exact this)
   have c6:wr.cell? _=some (.int _ _):=(f.cell G).trans (by have:=M 6 (by decide);rw[L] at this;exact this)
   have c7:wr.cell? _=some (.int _ _):=(f.cell G).trans (by have:=M 7 (by decide);rw[L] at this;exact this)
   have c8:wr.cell? _=some (.bool _):=(f.cell G).trans (by have:=M 8 (by decide);rw[L] at this;exact this)
   have c9:wr.cell? _=some (.int _ _):=(f.cell G).trans (by have:=M 9 (by decide);rw[L] at this;exact this)
   have j6:wr.cell? _=some (.int _ _):=(f.cell G).trans (by have:=M 10 (by decide);rw[L] at this;exact this)
   have j7:wr.cell? _=some (.int _ _):=(f.cell G).trans (by have:=M 11 (by decide);rw[L] at this;exact this)
   have j8:wr.cell? _=some (.int _ _):=(f.cell G).trans (by have:=M 12 (by decide);rw[L] at this;exact this)
   clear M L f5;have bB:((wr.alloc _).alloc (.cells #[b.name,b.own,b.pe,int i64 (-1),int i64 (-1)] 203)).heap[wr.heap.size]?=some (.cells (b,b1,b3) 150 (0,0)):=zd (Jb wr _) _;have bR:((wr.alloc (.cells (b,b1,b3) 150)).alloc (.cells #[b.name,b.own,b.pe,int i64 (-1),int i64 (-1)] 203)).heap[wr.heap.size+1]?=some (.cells #[b.name,b.own,b.pe,int i64 (-1),int i64 (-1)] 203 (0,0)):=by simpa using Jb (wr.alloc _) _
   have b6:Below _ wc ((wr.alloc (.cells (b,b1,b3) 150)).alloc (.cells #[b.name,b.own,b.pe,int i64 (-1),int i64 (-1)] 203)):=zk (zk f _) _;have J:=zo (zk (zk (Ji _ wr) (.cells (b,b1,b3) 150)) (.cells #[b.name,b.own,b.pe,int i64 (-1),int i64 (-1)] 203)) a6;have b0:=hI (λg hg=>(a6.lt g hg).2)
   have e2:((wr.alloc _).alloc _).cell? _=some (.slice a0 _ a3):=za (zb V b6) 0 _ rfl;have y1:=za bB 1 _ rfl;have k7:=f.size;go_wp2_with fail;generalize hrb:wr.heap.size=rb at bB bR b0 y1 k7 ⊢;generalize (wr.alloc _).alloc _=R0 at bB bR b6 J e2 y1 ⊢;clear hrb c0 c1 c2 c3 c4 c5 c6 c7 c8 c9 j6 j7 j8 f i0 a6 e2 y1;refine(zbz a0 _ a3 _ _ _ n2 (h0.below (ze T b6))).mono ?_;rintro e Y1 ⟨rfl,t⟩;have K:=zb bB t;have y:=zb bR t;have N:zx R0 Y1 (λg=>g=rb+1):=zx.of_below t
   have A:=ze b6 t;clear bB bR t b6;have l2:wc.heap.size<rb+1:=by omega
   have e7:=hI (lane_ix g8 b.who);have a8:=hI (cab_ix g8 b.who);obtain⟨ln,f8⟩:∃ x,x=zas l.st b.who l.stn:=⟨_,rfl⟩;obtain⟨I,f6⟩:∃ x,x=QA l.ro b.who l.ron:=⟨_,rfl⟩;rw[← f8] at e7;rw[← f6] at a8;have d3:Hid (R i=⟨b.name,b.own,b.pe,ln,I⟩):=by show R i=_;rw[HR.out,← j2.out];unfold zhD;rw[f8,f6]
   clear f8 f6;have l1:¬ (w.heap.size+1=rb+1):=by have:=zM V;omega
   have b7:¬ (rb=rb+1):=by omega
   have f7:wc.heap.size<=rb+1:=by omega
   by_cases hf1:zaj (Qc l.st) b.who l.stn<l.stn
   ·skip
    rw[zcz hf1];have a9:Hid (ln=(l.st (zaj (Qc l.st) b.who l.stn)).ln):=by have:=e7;rw[Jf hf1] at this;exact this
    obtain⟨q1,e5⟩:∃ q,q=zaj (Qc l.st) b.who l.stn:=⟨_,rfl⟩;rw[← e5] at hf1 a9 ⊢;clear e5;obtain⟨tb,j1,rfl,g0,g1,_,_⟩:=h0 q1 hf1;have b9:=Ja w _ g0;have s1:Y1.cell? _=some (.int _ ln):=((ze T A).cell (p:=⟨tb,_+1,_⟩) b9).trans (by rw[a9.out];exact g1)
    have d0:decide (0<=(q1:Int))=true:=by simp
    have i1:(0:Int)<=(q1:Int):=by omega
    have i2:(q1:Int)<(l.stn:Int):=by omega
    have e2:=za (zb V A) 0 _ rfl;have r3:=za y 3 _ rfl;have z3:=zg y 3;have E:=rowLn_set y ln;have H:=zD K 3 ln b7;have F:=N.set (a:=⟨_,3,none⟩) rfl ln;have s:Below _ wc (Y1.setCell _ ln):=A.setCell (p:=⟨_,3,none⟩) f7 _;have y1:=za H 1 _ rfl;have e3:=za (zb V s) 1 _ rfl;go_wp2_with fail;generalize (Y1.setCell _ _)=Z1 at E H F s y1 e3 ⊢;clear y K N A y1 e3 s1 d0 i1 i2 e2 r3 z3 g0 g1;refine(QF Z _ a2 _ _ _ n3 (d4.below (ze T s))).mono ?_;rintro e Q ⟨rfl,t⟩;have K:=zb H t;have y:=zb E t;have N:=F.trans (zx.of_below t);have A:=ze s t;clear H E F s t
    by_cases hf2:zaj (ZV l.ro) b.who l.ron<l.ron
    ·skip
     rw[zcz hf2];have O:Hid (I=(l.ro (zaj (ZV l.ro) b.who l.ron)).cab):=by have:=a8;rw[Jf hf2] at this;exact this
     obtain⟨q2,U⟩:∃ q,q=zaj (ZV l.ro) b.who l.ron:=⟨_,rfl⟩;rw[← U] at hf2 O ⊢;clear U;obtain⟨tb,j1,rfl,g0,g1,_,_⟩:=d4 q2 hf2;have b9:=Ja w _ g0;have s1:Q.cell? _=some (.int _ I):=((ze T A).cell (p:=⟨tb,_+1,_⟩) b9).trans (by rw[O.out];exact g1)
     have d0:decide (0<=(q2:Int))=true:=by simp
     have i1:(0:Int)<=(q2:Int):=by omega
     have i2:(q2:Int)<(l.ron:Int):=by omega
     have k8:=za (zb V A) 1 _ rfl;have r3:=za y 4 _ rfl;have z3:=zg y 4;have E:=zib y I;have H:=zD K 4 I b7;have F:=N.set (a:=⟨_,4,none⟩) rfl I;have s:Below _ wc (Q.setCell _ I):=A.setCell (p:=⟨_,4,none⟩) f7 _;obtain⟨t0,t1,t2,t3,t4⟩:=ce5 E;have n:=F.own J (λg hg e=>by have:=b0 g hg;have e:=e;omega)
     have r:wc.heap.size<=((Q.setCell _ _).alloc (.cells #[b.name,b.own,b.pe,ln,I] 203)).heap.size:=(zk s _).size;have W:Hid (∀ Y,(some ⟨(Q.setCell ⟨rb+1,4,none⟩ (int i64 I)).heap.size,0,none⟩:Option Addr)=some Y->∀ j u,([int i64 b.name,.string b.own,int i64 b.pe,int i64 ln,int i64 I]:_)[j]?=some u->((Q.setCell ⟨rb+1,4,none⟩ (int i64 I)).alloc (.cells #[int i64 b.name,.string b.own,int i64 b.pe,int i64 ln,int i64 I] 203)).cell? (Y.add j)=some u):=by
      intro Y e
      cases e
      exact Jo (Jb _ _)
     go_wp2_with (first|(at_builtin;refine zv _ (by rfl) _ _ 39 (by rfl) _ 203 j0 _ 5 48 underlying39 ji d9 e0 e1 rfl (by decide) _ i _ (by rfl) (n.alloc _) _ 1 1 [_,_,_,_,_] (by rfl) (λh=>(by cases h)) (by rfl) (by simpa using W.out) (by intro u hu;simp at hu;rcases hu with rfl|rfl|rfl|rfl|rfl <;> rfl) (by unfold maxLen;omega) (by omega) (by first|exact r|simpa using r) ?_;intro v' w3 a5 a4))
     go_roundw
     case rel =>
      refine⟨i+1,by omega,by go_num,?_,(zk s _).grown a4 r (λj hj=>(n.lt j hj).1)⟩
      rw[zbd,d3.out];exact a5
     case measure=>simp[intOf];omega
    ·skip
     have O:Hid (I=-1):=by have:=a8;rw[Je hf2] at this;exact this
     have b8:=zcA hf2;rw[b8];clear b8;have E:=y;have H:=K;have F:=N;have s:=A;obtain⟨t0,t1,t2,t3,t4⟩:=ce5 E;have n:=F.own J (λg hg e=>by have:=b0 g hg;have e:=e;omega)
     have r:wc.heap.size<=(Q.alloc (.cells #[b.name,b.own,b.pe,ln,int i64 (-1)] 203)).heap.size:=(zk s _).size;have W:Hid (∀ Y,(some ⟨Q.heap.size,0,none⟩:Option Addr)=some Y->∀ j u,([int i64 b.name,.string b.own,int i64 b.pe,int i64 ln,int i64 (-1)]:_)[j]?=some u->(Q.alloc (.cells #[int i64 b.name,.string b.own,int i64 b.pe,int i64 ln,int i64 (-1)] 203)).cell? (Y.add j)=some u):=by
      intro Y e
      cases e
      exact Jo (Jb Q _)
     go_wp2_with (first|(at_builtin;refine zv _ (by rfl) _ _ 39 (by rfl) _ 203 j0 _ 5 48 underlying39 ji d9 e0 e1 rfl (by decide) _ i _ (by rfl) (n.alloc _) _ 1 1 [_,_,_,_,_] (by rfl) (λh=>(by cases h)) (by rfl) (by exact W) (by intro u hu;simp at hu;rcases hu with rfl|rfl|rfl|rfl|rfl <;> rfl) (by unfold maxLen;omega) (by omega) (by first|exact r|simpa using r) ?_;intro v' w3 a5 a4))
     go_roundw
     case rel =>
      refine⟨i+1,by omega,by go_num,?_,(zk s _).grown a4 r (λj hj=>(n.lt j hj).1)⟩
      rw[zbd,d3.out];rw[O.out];exact a5
     case measure=>simp[intOf];omega
   ·skip
    have a9:Hid (ln=-1):=by have:=e7;rw[Je hf1] at this;exact this
    have i3:=zcA hf1;rw[i3];clear i3;have E:=y;have H:=K;have F:=N;have s:=A;have y1:=za H 1 _ rfl;have e3:=za (zb V s) 1 _ rfl;go_wp2_with fail;clear y K N A y1 e3 ;refine(QF Z _ a2 _ _ _ n3 (d4.below (ze T s))).mono ?_;rintro e Q ⟨rfl,t⟩;have K:=zb H t;have y:=zb E t;have N:=F.trans (zx.of_below t);have A:=ze s t;clear H E F s t
    by_cases hf2:zaj (ZV l.ro) b.who l.ron<l.ron
    ·skip
     rw[zcz hf2];have O:Hid (I=(l.ro (zaj (ZV l.ro) b.who l.ron)).cab):=by have:=a8;rw[Jf hf2] at this;exact this
     obtain⟨q2,U⟩:∃ q,q=zaj (ZV l.ro) b.who l.ron:=⟨_,rfl⟩;rw[← U] at hf2 O ⊢;clear U;obtain⟨tb,j1,rfl,g0,g1,_,_⟩:=d4 q2 hf2;have b9:=Ja w _ g0;have s1:Q.cell? _=some (.int _ I):=((ze T A).cell (p:=⟨tb,_+1,_⟩) b9).trans (by rw[O.out];exact g1)
     have d0:decide (0<=(q2:Int))=true:=by simp
     have i1:(0:Int)<=(q2:Int):=by omega
     have i2:(q2:Int)<(l.ron:Int):=by omega
     have k8:=za (zb V A) 1 _ rfl;have r3:=za y 4 _ rfl;have z3:=zg y 4;have E:=zib y I;have H:=zD K 4 I b7;have F:=N.set (a:=⟨_,4,none⟩) rfl I;have s:Below _ wc (Q.setCell _ I):=A.setCell (p:=⟨_,4,none⟩) f7 _;obtain⟨t0,t1,t2,t3,t4⟩:=ce5 E;have n:=F.own J (λg hg e=>by have:=b0 g hg;have e:=e;omega)
     have r:wc.heap.size<=((Q.setCell _ _).alloc (.cells #[b.name,b.own,b.pe,int i64 (-1),I] 203)).heap.size:=(zk s _).size;have W:Hid (∀ Y,(some ⟨(Q.setCell ⟨rb+1,4,none⟩ (int i64 I)).heap.size,0,none⟩:Option Addr)=some Y->∀ j u,([int i64 b.name,.string b.own,int i64 b.pe,int i64 (-1),int i64 I]:_)[j]?=some u->((Q.setCell ⟨rb+1,4,none⟩ (int i64 I)).alloc (.cells #[int i64 b.name,.string b.own,int i64 b.pe,int i64 (-1),int i64 I] 203)).cell? (Y.add j)=some u):=by
      intro Y e
      cases e
      exact Jo (Jb _ _)
     go_wp2_with (first|(at_builtin;refine zv _ (by rfl) _ _ 39 (by rfl) _ 203 j0 _ 5 48 underlying39 ji d9 e0 e1 rfl (by decide) _ i _ (by rfl) (n.alloc _) _ 1 1 [_,_,_,_,_] (by rfl) (λh=>(by cases h)) (by rfl) (by simpa using W.out) (by intro u hu;simp at hu;rcases hu with rfl|rfl|rfl|rfl|rfl <;> rfl) (by unfold maxLen;omega) (by omega) (by first|exact r|simpa using r) ?_;intro v' w3 a5 a4))
     go_roundw
     case rel =>
      refine⟨i+1,by omega,by go_num,?_,(zk s _).grown a4 r (λj hj=>(n.lt j hj).1)⟩
      rw[zbd,d3.out];rw[a9.out];exact a5
     case measure=>simp[intOf];omega
    ·skip
     have O:Hid (I=-1):=by have:=a8;rw[Je hf2] at this;exact this
     have b8:=zcA hf2;rw[b8];clear b8;have E:=y;have H:=K;have F:=N;have s:=A;obtain⟨t0,t1,t2,t3,t4⟩:=ce5 E;have n:=F.own J (λg hg e=>by have:=b0 g hg;have e:=e;omega)
     have r:wc.heap.size<=(Q.alloc (.cells #[b.name,b.own,b.pe,int i64 (-1),int i64 (-1)] 203)).heap.size:=(zk s _).size;have W:Hid (∀ Y,(some ⟨Q.heap.size,0,none⟩:Option Addr)=some Y->∀ j u,([int i64 b.name,.string b.own,int i64 b.pe,int i64 (-1),int i64 (-1)]:_)[j]?=some u->(Q.alloc (.cells #[int i64 b.name,.string b.own,int i64 b.pe,int i64 (-1),int i64 (-1)] 203)).cell? (Y.add j)=some u):=by
      intro Y e
      cases e
      exact Jo (Jb Q _)
     go_wp2_with (first|(at_builtin;refine zv _ (by rfl) _ _ 39 (by rfl) _ 203 j0 _ 5 48 underlying39 ji d9 e0 e1 rfl (by decide) _ i _ (by rfl) (n.alloc _) _ 1 1 [_,_,_,_,_] (by rfl) (λh=>(by cases h)) (by rfl) (by exact W) (by intro u hu;simp at hu;rcases hu with rfl|rfl|rfl|rfl|rfl <;> rfl) (by unfold maxLen;omega) (by omega) (by first|exact r|simpa using r) ?_;intro v' w3 a5 a4))
     go_roundw
     case rel =>
      refine⟨i+1,by omega,by go_num,?_,(zk s _).grown a4 r (λj hj=>(n.lt j hj).1)⟩
      rw[zbd,d3.out];rw[a9.out];rw[O.out];exact a5
     case measure=>simp[intOf];omega
  ·obtain rfl:i=m:=by omega
   go_wp2;go_ret;refine⟨⟨_,rfl,?_⟩,i0⟩;rw[e4.out.1,zcX (S':=R) (λj hj=>by rw[HR.out];exact j4.out j hj)]
   exact zu a6 T.size
end
theorem growI_nil (k:Nat)(w:World)(d:0<k)(hk:k<=4194304) :
  Calls prog 287 #[.slice none 0 0,int i64 k] w λe w'=>(∃ v,e=.returned v/\w'.ownsRow w.heap.size 3 1 v 0 [])/\Below w.heap.size w w':=by
 obtain⟨g,h,b,i,c⟩:=info_parts Tryz.infoInt;have a:=Lib.run_append_nil_zeros w 27 3 27 3 g _ .i64 _ underlying27 underlying3 h b k d (by omega) (by omega) (by rw[c];omega)
 have d0:decide ((k:Int)<0)=false:=by simp
 have d1:decide (0<k)=true:=by simpa using d
 go_enter func287,ntmps287;go_wp2_with (first|(at_builtin;refine Lib.wpList_append_run _ rfl _ _ _ _ rfl _ _ rfl rfl _ _ a ?_))
 go_ret;have f:=grownCap_ge w k 0 3;refine⟨⟨_,rfl,rfl,.inr ⟨_,_,_,rfl,Jr _,Jb w _,Jq _,grownCap_le_maxLen w k 0 _ (by unfold maxLen;omega),?_,rfl⟩⟩,(zk (Ji _ w) _).drew⟩
 rw[Array.size_append,size_zeroCells,size_zeroCells]
 show k*1+_*1=_
 omega
def cumI (n r:Nat):Nat:=if r=0 then 0 else if r=1 then n else n+1
def partI (a:List Int)(x:Int)(r:Nat):List Int:=if r=0 then [] else if r=1 then a else a++[x]
theorem zmd (T O:Nat)(m:Option Addr)(n y:Nat)(c:List Int)(x:Int)(w:World)(I:c.length=n)(hn:n<=1048576)
  (q:w.heap[T]?=some (.cells #[(m,n,y),(some (O,0),1,1)] 27 (0,0))) (P:zT w m n (getI c)) (Q:w.cell? (O,0)=some (int i64 x)) (L:m=none->n=0/\y=0) :
  Calls prog 275 #[.slice (some ⟨T,0,none⟩) 2 2] w λe w'=>(∃ d c',e=.returned (.slice d (n+1) c')/\w'.ownsRow w.heap.size 3 1 (.slice d (n+1) c') (n+1) (zab (c++[x])))/\Below w.heap.size w w':=by
 obtain⟨R,S,C,D,E⟩:=info_parts Tryz.infoInt;have W:=hI I;have N:=Ja w _ Q;have X:Hid (zT w m c.length (getI c)):=by rw[Hid,I];exact P
 clear I P;have U:w.cell? _=some (m,n,y):=za q 0 _ rfl;have V:w.cell? _=some (.slice _ 1 1):=za q 1 _ rfl;have c0:cumI n 0=0:=rfl;have c1:cumI n 1=n:=rfl;have c2:cumI n 2=n+1:=rfl;go_enter func275,ntmps275;go_wp2;go_loopg [3,5,11] 2 (λg s _ i wr=>∃ r,r<=2/\g=2 - r/\i=int i64 r/\s=int i64 (cumI n r)/\wr=w)
 case atStart=>exact⟨0,by omega,rfl,rfl,rfl,rfl⟩
 case round =>
  obtain⟨r,hr,rfl,rfl,rfl,A⟩:=hrel;have B:=A.symm;subst B;clear A;have o:r=0∨r=1∨r=2:=by omega
  rcases o with rfl|rfl|rfl
  ·go_wp2
   go_roundg 1
   case measure=>omega
   case rel=>exact⟨1,by omega,rfl,by go_num,by rw[c1],rfl⟩
  ·have hd:decide ((n:Int)+1<0)=false:=by simp;omega
   go_wp2;go_roundg 0
   case measure=>omega
   case rel=>exact⟨2,by omega,rfl,by go_num,by rw[c2];go_num,rfl⟩
  ·go_wp2_with fail
   refine(growI_nil (n+1) _ (by omega) (by omega)).mono ?_
   rintro e w1 ⟨⟨v,rfl,M⟩,K⟩;clear U V;go_wp2;go_loopg [6,8,27] 2 (λg u _ i wr=>∃ r,r<=2/\g=2 - r/\i=int i64 r/\wr.ownsRow w.heap.size 3 1 u (cumI n r) (zab (partI c x r))/\Below w.heap.size w wr)
   case atStart=>exact⟨0,by omega,rfl,rfl,M,K⟩
   case round =>
    obtain⟨r,hr,rfl,rfl,t,a⟩:=hrel;obtain⟨F,J⟩:∃ x,x=wr:=⟨_,rfl⟩;subst J;have k:=a.size;have l:=zb q a;have U:F.cell? _=some (m,n,y):=za l 0 _ rfl;have V:F.cell? _=some (.slice _ 1 1):=za l 1 _ rfl;have o:r=0∨r=1∨r=2:=by omega
    rcases o with rfl|rfl|rfl
    ·have G:=hI (znf (X.below a))
     go_wp2_with (first|(at_builtin;refine zv _ rfl _ _ 27 rfl _ 3 R _ 1 8 underlying27 S C D E rfl (by decide) _ 0 [] (by rfl) t m n y _ rfl L (by rw[zeu,W.out,Nat.mul_one]) G (zhQ c) (by unfold maxLen;omega) (by omega) k ?_;intro Z w3 f p))
     go_roundg 1
     case measure=>omega
     case rel=>exact⟨1,by omega,rfl,by go_num,by
      rw[c1];rw[Nat.zero_add,List.nil_append] at f;exact f,a.grown p k (λj z=>(t.lt j z).1)⟩
    ·have G:Hid (∀ H,(some (O,0):Option Addr)=some H->∀ j u,(zab [x])[j]?=some u->F.cell? (H.add j)=some u):=by
      intro H e j u Y
      cases e
      obtain⟨z,rfl⟩:=zcD _ _ _ _ Y;obtain rfl:=by simpa using z
      exact(a.cell N).trans Q
     have b:F.ownsRow _ 3 1 u6 n (zab c):=t;clear t;go_wp2_with (first|(at_builtin;refine zv _ rfl _ _ 27 rfl _ 3 R _ 1 8 underlying27 S C D E rfl (by decide) _ n _ (by rfl) b _ 1 1 _ rfl (λh=>(by cases h)) (by rw[zeu];rfl) G (zhQ _) (by unfold maxLen;omega) (by omega) k ?_;intro Z w3 f p))
     go_roundg 0
     case measure=>omega
     case rel=>exact⟨2,by omega,rfl,by go_num,by
      rw[c2];have:zab (partI c x 2)=_:=zix _ _;rw[this];exact f,a.grown p k (λj z=>(b.lt j z).1)⟩
    ·rw[c2] at t
     have b:F.ownsRow _ 3 1 u6 _ (zab (c++[x])):=t;clear t;obtain⟨d,c',rfl,_⟩:=zp b;go_wp2;go_ret;exact⟨⟨d,c',rfl,b⟩,a⟩
def zic (a:ByteArray)(t:Int)(fr:ByteArray)(d:Int):Bool:=(fr.toList == a.toList) && decide (t<=d)
theorem zcC {a fr:ByteArray}{t d:Int}:zic a t fr d=true↔fr=a/\t<=d:=by
 unfold zic;rw[Bool.and_eq_true,zet,decide_eq_true_iff]
theorem zid (la:Option Addr)(n l:Nat)(b:ByteArray)(t x d a mo:Int)(fr tt:ByteArray)(lo i:Option Addr)(m o c1 c2:Nat)(w:World) :
  Calls prog 247 #[.agg #[(la,n,l),b,t],.agg #[x,fr,tt,d,a,(lo,m,c1),(i,o,c2),mo]] w λe w'=>e=.returned (.bool (zic b t fr d))/\Below w.heap.size w w':=by
 obtain⟨q,g⟩:∃ q,q=zic b t fr d:=⟨_,rfl⟩;rw[← g];have f:=hI g;clear g
 by_cases h1:fr=b
 ·have j:=zet.2 h1
  have c:=hI h1;clear h1
  by_cases h2:t<=d
  ·have k:decide (t<=d)=true:=by simpa using h2
   go_enter func247,ntmps247;go_wp2;go_ret;exact⟨by rw[f.out,zcC.2 ⟨c.out,h2⟩];rfl,zk (zk bZ _) _⟩
  ·have k:decide (t<=d)=false:=by simpa using h2
   go_enter func247,ntmps247;go_wp2;go_ret;exact⟨by rw[f.out,show zic b t fr d=false from Bool.eq_false_iff.2 (λh=>by have:=(zcC.1 h).2;omega)];rfl,zk (zk bZ _) _⟩
 ·have j:=zga.2 h1
  have c:=hI h1;clear h1;go_enter func247,ntmps247;go_wp2;go_ret;exact⟨by rw[f.out,Bool.eq_false_iff.2 (λh=>c.out (zcC.1 h).1)];rfl,zk (zk bZ _) _⟩
theorem with_any (la:Option Addr)(n h:Nat)(F:List Int)(B:ByteArray)(t x d a mo:Int)(fr tt:ByteArray)(lo v:Option Addr)(z A c1 c2:Nat)(w:World)(O:F.length=n)(hn:n<=1048576)(P:zT w la n (getI F))(K:la=none->n=0/\h=0) :
  Calls prog 248 #[.agg #[.slice la n h,.string B,int i64 t],.agg #[int i64 x,.string fr,.string tt,int i64 d,int i64 a,.slice lo z c1,.slice v A c2,int i64 mo]] w λe w'=>∃ ao c,e=.returned (.agg #[.slice ao (n+1) c,.string tt,int i64 a])/\w'.ownsRow w.heap.size 3 1 (.slice ao (n+1) c) (n+1) (zab (F++[x]))/\Below w.heap.size w w':=by
 have V:=hI O;clear O;go_enter func248,ntmps248;go_upto_region 1 with fail;have m:(((w.alloc _).alloc (.cells #[x,fr,tt,d,a,(lo,z,c1),(v,A,c2),mo] 140)).alloc (.cells #[True,False,()] 329)).heap[w.heap.size]?=some (.cells #[(la,n,h),B,t] 329 (0,0)):=zd (zd (Jb w _) _) _;have g:(((w.alloc (.cells #[(la,n,h),B,t] 329)).alloc _).alloc (.cells #[True,False,()] 329)).heap[w.heap.size+1]?=some (.cells #[x,fr,tt,d,a,(lo,z,c1),(v,A,c2),mo] 140 (0,0)):=zd (by simpa using Jb (w.alloc _) _) _
 have s:(((w.alloc (.cells #[(la,n,h),B,t] 329)).alloc (.cells #[x,fr,tt,d,a,(lo,z,c1),(v,A,c2),mo] 140)).alloc (.cells #[True,False,()] 329)).heap[w.heap.size+1+1]?=some (.cells #[True,False,()] 329 (0,0)):=by simpa using Jb ((w.alloc _).alloc _) _
 have k:Below _ w (((w.alloc (.cells #[(la,n,h),B,t] 329)).alloc (.cells #[x,fr,tt,d,a,(lo,z,c1),(v,A,c2),mo] 140)).alloc (.cells #[True,False,()] 329)):=zk (zk (zk bZ _) _) _;have j:(((w.alloc (.cells #[(la,n,h),B,t] 329)).alloc (.cells #[x,fr,tt,d,a,(lo,z,c1),(v,A,c2),mo] 140)).alloc (.cells #[True,False,()] 329)).heap.size=w.heap.size+1+1+1:=by simp
 generalize hW:((w.alloc _).alloc _).alloc _=W at m g s k j ⊢;clear hW;have H:=hI j;clear j;have r:Below _ W (((W.alloc (.cells #[x] 3)).alloc (.cells #[(la,n,h),(some (W.heap.size,0),1,1)] 27)).drew):=(zk (zk (Ji _ W) _) _).drew;have D:(((W.alloc (.cells #[x] 3)).alloc _).drew).heap[W.heap.size+1]?=some (.cells #[(la,n,h),(some (W.heap.size,0),1,1)] 27 (0,0)):=zK (by simpa using Jb (W.alloc _) _)
 have E:(((W.alloc _).alloc (.cells #[(la,n,h),(some (W.heap.size,0),1,1)] 27)).drew).heap[W.heap.size]?=some (.cells #[x] 3 (0,0)):=zK (zd (Jb W _) _);have N:=zmd _ _ la n h F x _ V hn D (P.below (ze k r)) (za E 0 _ rfl) K;have U:Hid _:=N;have f:Hid (∀ w',zx W w' (λb=>b=w.heap.size+1+1)->w'.cell? _=some (la,n,h)/\w'.cell? _=some (.int _ x)/\w'.cell? _=some (.string tt)/\w'.cell? _=some (.int _ a)) :=
  λw' y=>⟨za (y.blk m (by omega)) 0 _ rfl,za (y.blk g (by omega)) 0 _ rfl,za (y.blk g (by omega)) 2 _ rfl,za (y.blk g (by omega)) 4 _ rfl⟩
 have Y:Hid (zx W _ (λb=>b=w.heap.size+1+1)):=zx.of_below bZ.drew
 have Z:Hid (∀ o,zx W (W.alloc o) (λb=>b=w.heap.size+1+1)):=λo=>zx.of_below (zk bZ _)
 have I:Hid (∀ o,zx W (W.alloc o).drew (λb=>b=w.heap.size+1+1)):=λo=>zx.of_below (zk bZ _).drew
 have J:Hid (∀ o p,zx W ((W.alloc o).alloc p) (λb=>b=w.heap.size+1+1)):=λo p=>zx.of_below (zk (zk bZ _) _)
 have C:Hid (∀ o p,zx W ((W.alloc o).alloc p).drew (λb=>b=w.heap.size+1+1)):=λo p=>zx.of_below (zk (zk bZ _) _).drew
 have KS:Hid (∀ w',zx W w' (λb=>b=_+1)->∀ u1 u2 u3,zx W (((w'.setCell _ u1).setCell _ u2).setCell _ u3) _):=λw' y u1 u2 u3=>((y.set (a:=⟨_,0,none⟩) rfl _).set (a:=⟨_,1,none⟩) rfl _).set (a:=(w.heap.size+1+1,2)) rfl _
 have Q:=za m 0 _ rfl;have R:=za g 0 _ rfl;have S:=za g 2 _ rfl;have T:=za g 4 _ rfl;have i:=hI r;have X:=hI s;have G:=hI k;clear N D E r m g s k P;go_region_held3 (λw'=>w'.cell? (w.heap.size,0)=some (la,n,h)/\w'.cell? (w.heap.size+1,0)=some (int i64 x)/\w'.cell? (w.heap.size+1,2)=some (.string tt)/\w'.cell? (w.heap.size+1,4)=some (int i64 a))
  (first|with_reducible exact⟨Q,R,S,T⟩|with_reducible exact f.out _ Y.out|with_reducible exact f.out _ (Z.out _)|with_reducible exact f.out _ (I.out _)|with_reducible exact f.out _ (J.out _ _)|with_reducible exact f.out _ (C.out _ _)|with_reducible exact f.out _ (zx.of_below (ze i.out l))|with_reducible exact f.out _ (KS.out _ (zx.of_below (ze i.out l)) _ _ _))
  (first|(go_at_call 275;refine Jm U ?_;rintro e w3 ⟨⟨L,M,rfl,ho⟩,l⟩;have u:=zb X (ze i l);have o0:=za u 0 _ rfl;have o1:=za u 1 _ rfl;have o2:=za u 2 _ rfl;have f0:=zg u 0;have f1:=zg u 1;have f2:=zg u 2))
 go_wp2;clear Q R S T o0 o1 o2 f0 f1 f2;have q:w.heap.size+1+1<(((W.alloc (.cells #[x] 3)).alloc (.cells #[(la,n,h),(some (W.heap.size,0),1,1)] 27)).drew).heap.size:=by
  have h1:=i.size;have h2:=H.out
  omega
 have rF:=zm (zm (zm u 0 (L,n+1,M)) 1 tt) 2 a;obtain⟨y0,y1,y2⟩:=ce3 rF;refine Jj (by simp[results,results248,go_sem,y0,y1,y2]) rfl ⟨L,M,rfl,?_,?_⟩
 ·exact zu (ZW (ZW (ZW ho (by show _+1<_;exact q) _) (by show _+1<_;exact q) _) (by show _+1<_;exact q) _) (by omega)
 ·have hb:=ze G (ze i l)
  exact((hb.setCell (by show w.heap.size<=_+1;omega) _).setCell (by show w.heap.size<=_+1;omega) _).setCell (by show w.heap.size<=_+1;omega) _
/-- findSailing: where the first sailing with the Id stands, and whether there is one. -/
theorem zaF (l:Option Addr)(N c:Nat)(S:Nat->Zj)(x:Int)(w:World)(hN:N<=1048576)(y:qB w l N S) :
  Calls prog 198 #[.slice l N c,int i64 x] w λe w'=>((zW S x N<N/\e=.returned (.tuple #[int i64 (zW S x N),.bool true]))∨(zW S x N=N/\e=.returned (.tuple #[int i64 0,.bool false])))/\Below w.heap.size w w':=by
 go_enter func198,ntmps198;go_wp2;go_loopw [6,7,10] (λ_ _ i wr=>∃ k,k<=N/\i=int i64 k/\(∀ j,j<k->(S j).id≠x)/\Below w.heap.size w wr) (λ_ _ i _=>N - (intOf i).toNat)
 case atStart=>exact⟨0,Jq _,rfl,λj u=>by omega,bZ⟩
 case round =>
  obtain⟨k,hk,rfl,d,a⟩:=hrel;have h:=hI d;clear d
  by_cases hlt:k<N
  ·obtain⟨b,off,la,lc,ca,cc,rfl,m,h1,h2,h3,n,o,q,r,_,_,_,_⟩:=y k hlt
   have f:=Ja w _ h1;have c0:=(a.cell (p:=⟨b,off+_,_⟩) f).trans m;have c1:=(a.cell f).trans h1;have c2:=(a.cell (p:=⟨b,_+2,_⟩) f).trans h2;have c3:=(a.cell (p:=⟨b,_+3,_⟩) f).trans h3;have c4:=(a.cell (p:=⟨b,_+4,_⟩) f).trans n;have c5:=(a.cell (p:=⟨b,_+5,_⟩) f).trans o;have c6:=(a.cell (p:=⟨b,_+6,_⟩) f).trans q;have c7:=(a.cell (p:=⟨b,_+7,_⟩) f).trans r;clear m h1 h2 h3 n o q r
   by_cases he:(S k).id=x
   ·have t:((S k).id == x)=true:=by simpa using he
    have g:=hI (zkg hlt he h);clear he;go_wp2;exact Jj (v:=.tuple #[int i64 k,.bool true]) (by simp[results,results198,go_sem]) rfl ⟨.inl ⟨by rw[g.out];exact hlt,by rw[g.out]⟩,zk a _⟩
   ·have t:((S k).id == x)=false:=by simpa using he
    have s:=hI he;clear he;go_wp2;go_roundw
    case rel=>exact⟨k+1,by omega,by go_num,λj u=>by
     by_cases e:j=k
     ·subst e;exact s
     ·exact h j (by omega),zk a _⟩
    case measure=>simp[intOf];omega
  ·obtain rfl:k=N:=by omega
   have g:=hI (zgD h);go_wp2;exact Jj (by simp[results,results198,go_sem]) rfl ⟨.inr ⟨g,rfl⟩,a⟩
structure zfS (w u:World)(a b c:Value)(os:Array Value):Prop where
 bo:u.heap[w.heap.size]?=some (.cells #[a,b,c] 38 (0,0))
 bp:u.heap[w.heap.size+1]?=some (.cells os 47 (0,0))
 br:u.heap[w.heap.size+1+1]?=some (.cells #[True,True,True] 38 (0,0))
 ba:u.heap[w.heap.size+1+1+1]?=some (.cells #[(),(),(),True] 41 (0,0))
theorem zfS.below {w u e:World}{b c d:Value}{os:Array Value}(h:zfS w u b c d os)(a:Below u.heap.size u e):zfS w e b c d os:=⟨zb h.bo a,zb h.bp a,zb h.br a,zb h.ba a⟩
theorem zfS.start (w:World)(a b c:Value)(os:Array Value):zfS w ((((w.alloc (.cells #[a,b,c] 38)).alloc (.cells os 47)).alloc (.cells #[True,True,True] 38)).alloc (.cells #[(),(),(),True] 41)) a b c os:=by
 obtain⟨h1,h2,h3,d,_⟩:=zcT w (.cells #[a,b,c] 38) (.cells os 47) (.cells #[True,True,True] 38) (.cells #[(),(),(),True] 41);exact⟨h1,h2,h3,d⟩
def qt (u:World)(g:Nat)(v0 v1 v2:Value):World:=((u.setCell (g,0) v0).setCell (g,1) v1).setCell (g,2) v2
def ZK (u:World)(g:Nat)(v0 v1 v2 v3:Value):World:=(((u.setCell (g,0) v0).setCell (g,1) v1).setCell (g,2) v2).setCell (g,3) v3
theorem QG (u:World)(g:Nat)(v0 v1 v2:Value):zx u (qt u g v0 v1 v2) (λb=>b=g):=(((zx.refl u (λb=>b=g)).set (a:=⟨g,0,none⟩) rfl v0).set (a:=⟨g,1,none⟩) rfl v1).set (a:=⟨g,2,none⟩) rfl v2
theorem QH (u:World)(g:Nat)(v0 v1 v2 v3:Value):zx u (ZK u g v0 v1 v2 v3) (λb=>b=g):=zaU u g v0 v1 v2 v3
theorem zfS.fin {w u:World}{i j k:Value}{os:Array Value}(h:zfS w u i j k os)(a c d v0 v1 v2 v3:Value) :
  (ZK (qt u (w.heap.size+1+1) a c d) (w.heap.size+1+1+1) v0 v1 v2 v3).heap[w.heap.size+1+1]?=some (.cells #[a,c,d] 38 (0,0))/\(ZK (qt u (w.heap.size+1+1) a c d) (w.heap.size+1+1+1) v0 v1 v2 v3).heap[w.heap.size+1+1+1]?=some (.cells #[v0,v1,v2,v3] 41 (0,0)) /\
   (qt u (w.heap.size+1+1) a c d).heap[w.heap.size]?=some (.cells #[i,j,k] 38 (0,0))/\(qt u (w.heap.size+1+1) a c d).heap[w.heap.size+1]?=some (.cells os 47 (0,0))/\(qt u (w.heap.size+1+1) a c d).heap[w.heap.size+1+1+1]?=some (.cells #[(),(),(),True] 41 (0,0)) /\
   (ZK (qt u (w.heap.size+1+1) a c d) (w.heap.size+1+1+1) v0 v1 v2 v3).heap[w.heap.size]?=some (.cells #[i,j,k] 38 (0,0))/\(ZK (qt u (w.heap.size+1+1) a c d) (w.heap.size+1+1+1) v0 v1 v2 v3).heap[w.heap.size+1]?=some (.cells os 47 (0,0))/\zx u (ZK (qt u (w.heap.size+1+1) a c d) (w.heap.size+1+1+1) v0 v1 v2 v3) (λb=>b=w.heap.size+1+1∨b=w.heap.size+1+1+1):=by
 have f:=QG u (w.heap.size+1+1) a c d;have g:=QH (qt u (w.heap.size+1+1) a c d) (w.heap.size+1+1+1) v0 v1 v2 v3;have l:=f.blk h.ba (show ¬ w.heap.size+1+1+1=w.heap.size+1+1 by omega)
 have m:=f.blk h.bo (show ¬ w.heap.size=w.heap.size+1+1 by omega)
 have c1:=f.blk h.bp (show ¬ w.heap.size+1=w.heap.size+1+1 by omega)
 exact⟨g.blk (zcq h.br a c d) (show ¬ w.heap.size+1+1=w.heap.size+1+1+1 by omega),zcJ l v0 v1 v2 v3,m,c1,l,g.blk m (show ¬ w.heap.size=w.heap.size+1+1+1 by omega),g.blk c1 (show ¬ w.heap.size+1=w.heap.size+1+1+1 by omega),(f.mono (λb e=>.inl e)).trans (g.mono (λb e=>.inr e))⟩
theorem zfS.low {w u:World}(f:Below w.heap.size w u)(c d e v0 v1 v2 v3:Value):Below w.heap.size w (ZK (qt u (w.heap.size+1+1) c d e) (w.heap.size+1+1+1) v0 v1 v2 v3):=by
 have b:w.heap.size<=w.heap.size+1+1:=by omega
 have a:w.heap.size<=w.heap.size+1+1+1:=by omega
 exact((((((f.setCell b c).setCell b d).setCell b e).setCell a v0).setCell a v1).setCell a v2).setCell a v3
theorem settle_1 (x:Off)(k l m:Option Addr)(c1 c2 c3:Nat)(t:Int)(y:OpD)(f:Option Addr)(g:Nat)(w:World)(H:y.kind=1)(J:Zq w)(L:Zu w)(I:QU ⟨y.pe,y.len,y.hei,y.cl,y.all,y.be⟩ y.lgn) :
  Calls prog 111 #[.agg #[(k,x.san,c1),(l,x.ldn,c2),(m,x.bkn,c3)],t,.agg (y,f,g)] w λe w'=>e=.returned (.tuple #[.agg #[(k,x.san,c1),(l,x.ldn,c2),(m,x.bkn,c3)],.agg #[(),(),(zE ⟨y.pe,y.len,y.hei,y.cl,y.all,y.be⟩ y.lgn),True]])/\Below w.heap.size w w':=by
 have p:=λV h1 h2=>zcG y f g V h1 h2 I
 rw[H] at p ⊢;have s:=hI p;have a:=hI (zfS.start w (k,x.san,c1) (l,x.ldn,c2) (m,x.bkn,c3) #[int i64 1,y.own,y.name,(f,y.lgn,g),y.pe,y.len,y.hei,y.cl,y.all,y.be,y.unt,y.now]);have n:Below _ w ((((w.alloc (.cells #[(k,x.san,c1),(l,x.ldn,c2),(m,x.bkn,c3)] 38)).alloc (.cells #[int i64 1,y.own,y.name,(f,y.lgn,g),y.pe,y.len,y.hei,y.cl,y.all,y.be,y.unt,y.now] 47)).alloc (.cells #[True,True,True] 38)).alloc (.cells #[(),(),(),True] 41)):=zk (zk (zk (zk bZ _) _) _) _;clear H p I;go_enter func111,ntmps111;go_upto_region 1 with fail;generalize (((w.alloc _).alloc _).alloc _).alloc _=U at a n ⊢;have M:=za a.bp 0 _ rfl;go_upto_region 3 with fail;clear M;replace a:=hI (a.below (Ji _ U).drew);have d:=n.drew;clear n;refine qg 6 6 (λu=>u.cell? _=some (.slice k _ c1)/\u.cell? _=some (.slice l _ c2)/\u.cell? _=some (.slice m _ c3)/\u.cell? _=some (.int _ 1)/\u.cell? _=some (.string _)/\u.cell? _=some (.int _ _)/\u.cell? _=some (.slice f _ g)/\u.cell? _=some (.int _ _)/\u.cell? _=some (.int _ _)/\u.cell? _=some (.int _ _)/\u.cell? _=some (.int _ _)/\u.cell? _=some (.bool _)/\u.cell? _=some (.int _ _)/\u.cell? _=some (.int _ _)/\u.cell? _=some (.int _ _)) rfl (by kernel_rfl) (⟨za a.bo 0 _ rfl,za a.bo 1 _ rfl,za a.bo 2 _ rfl,za a.bp 0 _ rfl,za a.bp 1 _ rfl,za a.bp 2 _ rfl,za a.bp 3 _ rfl,za a.bp 4 _ rfl,za a.bp 5 _ rfl,za a.bp 6 _ rfl,za a.bp 7 _ rfl,za a.bp 8 _ rfl,za a.bp 9 _ rfl,za a.bp 10 _ rfl,za a.bp 11 _ rfl⟩) (λr=>?_)
 simp only[List.replicate_succ,List.replicate_zero];generalize U.drew=u0 at a d r ⊢
 iterate 2 (refine tFN 0 (v:=?_) rfl (by kernel_rfl) (λ_ _ _ h=>h) rfl (by assumption) ?_ ?_;rotate_left;(focus(intro w' h;(try dsimp only at h);go_simp;try with_reducible rfl));simp only[Act.put,sB,sZ,sS])
 refine zj (rs:=[2]) (by kernel_rfl) (by simp) ?_
 refine zc.consL rfl (λK j=>?_) zc.nil
 go_simp;go_at_call 202;refine Jm (s _ (J.below d) (L.below d)) ?_;rintro e u1 ⟨rfl,o⟩;dsimp only;replace a:=hI (a.below o);replace d:=ze d o;refine j _ _ (⟨za a.bo 0 _ rfl,za a.bo 1 _ rfl,za a.bo 2 _ rfl,za a.bp 0 _ rfl,za a.bp 1 _ rfl,za a.bp 2 _ rfl,za a.bp 3 _ rfl,za a.bp 4 _ rfl,za a.bp 5 _ rfl,za a.bp 6 _ rfl,za a.bp 7 _ rfl,za a.bp 8 _ rfl,za a.bp 9 _ rfl,za a.bp 10 _ rfl,za a.bp 11 _ rfl⟩) (λr=>?_)
 clear j K o;simp only[sZ,sS]
 (refine tFN 3 (v:=?_) rfl (by kernel_rfl) (λ_ _ _ h=>h) rfl (by assumption) ?_ ?_;rotate_left;(focus(intro w' h;(try dsimp only at h);go_simp;try with_reducible rfl));simp only[Act.put,sB,sZ,sS])
 have i:=hI (a.fin (k,x.san,c1) (l,x.ldn,c2) (m,x.bkn,c3) () () (zE ⟨y.pe,y.len,y.hei,y.cl,y.all,y.be⟩ y.lgn) True);obtain⟨C,D,E⟩:=ce3 a.br;obtain⟨z,A,B⟩:=fe3 a.br;refine zj (rs:=[4]) (by kernel_rfl) (by simp) ?_
 refine zc.consL rfl (λK j=>?_) zc.nil
 go_simp;have b:=i.2.2;unfold qt at b;refine j _ _ (⟨za b.1 0 _ rfl,za b.1 1 _ rfl,za b.1 2 _ rfl,za b.2.1 0 _ rfl,za b.2.1 1 _ rfl,za b.2.1 2 _ rfl,za b.2.1 3 _ rfl,za b.2.1 4 _ rfl,za b.2.1 5 _ rfl,za b.2.1 6 _ rfl,za b.2.1 7 _ rfl,za b.2.1 8 _ rfl,za b.2.1 9 _ rfl,za b.2.1 10 _ rfl,za b.2.1 11 _ rfl⟩) (λr=>?_)
 clear j K C z D A E B;simp only[sZ,sS];obtain⟨C,D,E,N⟩:=ce4 b.2.2.1;obtain⟨z,A,B,f3⟩:=fe4 b.2.2.1;refine zj (rs:=[5]) (by kernel_rfl) (by simp) ?_
 refine zc.consL rfl (λK j=>?_) zc.nil
 go_simp;have c:=i.2.2.2.2.2;unfold ZK qt at c;refine j _ _ (⟨za c.1 0 _ rfl,za c.1 1 _ rfl,za c.1 2 _ rfl,za c.2.1 0 _ rfl,za c.2.1 1 _ rfl,za c.2.1 2 _ rfl,za c.2.1 3 _ rfl,za c.2.1 4 _ rfl,za c.2.1 5 _ rfl,za c.2.1 6 _ rfl,za c.2.1 7 _ rfl,za c.2.1 8 _ rfl,za c.2.1 9 _ rfl,za c.2.1 10 _ rfl,za c.2.1 11 _ rfl⟩) (λr=>?_)
 clear j K C z D A E B N f3 b c;simp only[sZ,sS];refine zX (by kernel_rfl) ?_ _
 go_wp2;have F:=i.1;have G:=i.2.1;unfold ZK qt at F G;obtain⟨S,T,W⟩:=ce3 F;obtain⟨O,P,Q,R⟩:=ce4 G;have q:=zfS.low d (k,x.san,c1) (l,x.ldn,c2) (m,x.bkn,c3) () () (zE ⟨y.pe,y.len,y.hei,y.cl,y.all,y.be⟩ y.lgn) True;unfold ZK qt at q;exact Jj (by simp[results,results111,go_sem,S,T,W,O,P,Q,R]) rfl ⟨rfl,q⟩
theorem settle_9 (x:Off)(j m n:Option Addr)(c1 c2 c3 k:Nat)(V:Int)(y:OpD)(E:Option Addr)(o:Nat)(w:World)(H:y.kind=9)(hs:Off.Short x 1048576)(O:qB w j x.san x.sa)(I:ZG w m x.ldn x.ld)(F:qO w n x.bkn x.bk)(a0:x.bkn<=30)(L:x.ldn=x.san)
  (a4:0<y.lgn) (J:zT w E y.lgn y.lg) (hk:zW x.sa (y.lg 0) x.san=k) (a5:k<x.san) (M:qm (x.sa k) (x.ld k)) :
  Calls prog 111 #[.agg #[(j,x.san,c1),(m,x.ldn,c2),(n,x.bkn,c3)],V,.agg (y,E,o)] w λe w'=>(∃ v,e=.returned (.tuple #[.agg #[(j,x.san,c1),(m,x.ldn,c2),(n,x.bkn,c3)],.agg #[(),(),(),v]])/\w'.ownsRow w.heap.size 203 5 v (Qn (x.ld k) x.bk (x.sa k).id x.bkn).length (qW (zeM (Qn (x.ld k) x.bk (x.sa k).id x.bkn)) (Qn (x.ld k) x.bk (x.sa k).id x.bkn).length))/\Below w.heap.size w w':=by
 rw[H];obtain⟨lb,lo,rfl,G⟩:=J 0 a4;have T:=hI hs;have D:=hI O;have R:=hI I;have Q:=hI F;have HM:=hI L;have HK:=hI hk;have S:=hI M;have t:=hI G;have n8:=hs.1.1;have b:=hI (zfS.start w (j,x.san,c1) (m,x.ldn,c2) (n,x.bkn,c3) #[int i64 9,y.own,y.name,(some (lb,lo),y.lgn,o),y.pe,y.len,y.hei,y.cl,y.all,y.be,y.unt,y.now]);have s:Below _ w ((((w.alloc (.cells #[(j,x.san,c1),(m,x.ldn,c2),(n,x.bkn,c3)] 38)).alloc (.cells #[int i64 9,y.own,y.name,(some (lb,lo),y.lgn,o),y.pe,y.len,y.hei,y.cl,y.all,y.be,y.unt,y.now] 47)).alloc (.cells #[True,True,True] 38)).alloc (.cells #[(),(),(),True] 41)):=zk (zk (zk (zk bZ _) _) _) _;clear H hs O I F L J hk M G;go_enter func111,ntmps111;go_upto_region 1 with fail;generalize (((w.alloc _).alloc _).alloc _).alloc _=U at b s ⊢;have o0:=za b.bp 0 _ rfl;go_upto_region 10 with fail;clear o0;replace b:=hI (b.below (Ji _ U).drew);have a:=s.drew;clear s;have i0:(0:Int)<(y.lgn:Int):=by omega
 have A:Hid (∀ z,Below _ w z->_):=λz hz=>(hz.cell (Ja w _ t)).trans t
 refine qg 12 12 (λu=>u.cell? _=some (.slice j _ c1)/\u.cell? _=some (.slice _ _ o)/\u.cell? _=_) rfl (by kernel_rfl) ⟨za b.bo 0 _ rfl,za b.bp 3 _ rfl,A _ a⟩ (λr=>?_)
 simp only[List.replicate_succ,List.replicate_zero];generalize U.drew=u0 at b a r ⊢
 iterate 6 (refine tFN 0 (v:=?_) rfl (by kernel_rfl) (λ_ _ _ h=>h) rfl (by assumption) ?_ ?_;rotate_left;(focus(intro w' h;(try dsimp only at h);go_simp;try with_reducible rfl));simp only[Act.put,sB,sZ,sS])
 refine zj (rs:=[6]) (by kernel_rfl) (by simp) ?_
 refine zc.consL rfl (λK l=>?_) zc.nil
 go_simp;go_at_call 198;refine Jm (zaF j _ c1 _ _ u0 n8 (D.below a)) ?_;rintro e u1 ⟨p,d⟩;replace p:e=.returned (.tuple #[(k:Int),.bool true]):=by
  rw[HK.out] at p
  rcases p with⟨_,q⟩|⟨q,_⟩
  ·exact q
  ·omega
 subst p;dsimp only;replace b:=hI (b.below d);replace a:=ze a d;refine l _ _ ⟨za b.bo 0 _ rfl,za b.bp 3 _ rfl,A _ a⟩ (λr=>?_)
 clear l K d;simp only[sZ,sS]
 iterate 5 (refine tFN 7 (v:=?_) rfl (by kernel_rfl) (λ_ _ _ h=>h) rfl (by assumption) ?_ ?_;rotate_left;(focus(intro w' h;(try dsimp only at h);go_simp;try with_reducible rfl));simp only[Act.put,sB,sZ,sS])
 refine zX (by kernel_rfl) ?_ _
 go_upto_region 11 with fail;replace b:=hI (b.below (Ji _ u1).drew);replace a:=a.drew;refine qg 7 7 (λu=>u.cell? _=some (.slice j _ c1)/\u.cell? _=some (.slice m _ c2)/\u.cell? _=some (.slice n _ c3)) rfl (by kernel_rfl) ⟨za b.bo 0 _ rfl,za b.bo 1 _ rfl,za b.bo 2 _ rfl⟩ (λr=>?_)
 simp only[List.replicate_succ,List.replicate_zero];generalize u1.drew=u2 at b a r ⊢
 iterate 3 (refine tFN 0 (v:=?_) rfl (by kernel_rfl) (λ_ _ _ h=>h) rfl (by assumption) ?_ ?_;rotate_left;(focus(intro w' h;(try dsimp only at h);go_simp;try with_reducible rfl));simp only[Act.put,sB,sZ,sS])
 refine zj (rs:=[3]) (by kernel_rfl) (by simp) ?_
 refine zc.consL rfl (λK l=>?_) zc.nil
 go_simp;go_at_call 204;refine Jm (znL x j m n c1 c2 c3 k u2 T (D.below a) (R.below a) (Q.below a) a0 a5 HM S) ?_;rintro e u3 ⟨⟨v,rfl,ho⟩,d⟩;obtain⟨va,vc,rfl,_⟩:=zp ho;dsimp only;have P:Hid _:=zu ho a.size;replace b:=hI (b.below d);replace a:=ze a d;refine l _ _ ⟨za b.bo 0 _ rfl,za b.bo 1 _ rfl,za b.bo 2 _ rfl⟩ (λr=>?_)
 clear l K d ho;simp only[sZ,sS];obtain⟨N,Z⟩:∃ N,N=(Qn (x.ld k) x.bk (x.sa k).id x.bkn).length:=⟨_,rfl⟩;have HN:=hI Z;rw[← Z] at P ⊢;clear Z
 (refine tFN 4 (v:=?_) rfl (by kernel_rfl) (λ_ _ _ h=>h) rfl (by assumption) ?_ ?_;rotate_left;(focus(intro w' h;(try dsimp only at h);go_simp;try with_reducible rfl));simp only[Act.put,sB,sZ,sS])
 have f:=hI (b.fin (j,x.san,c1) (m,x.ldn,c2) (n,x.bkn,c3) () () () (va,N,vc));obtain⟨r0,r1,r2⟩:=ce3 b.br;obtain⟨W,X,Y⟩:=fe3 b.br;refine zj (rs:=[5]) (by kernel_rfl) (by simp) ?_
 refine zc.consL rfl (λK l=>?_) zc.nil
 go_simp;have c:=f.2.2;unfold qt at c;refine l _ _ (⟨za c.1 0 _ rfl,za c.1 1 _ rfl,za c.1 2 _ rfl⟩) (λr=>?_)
 clear l K r0 W r1 X r2 Y;simp only[sZ,sS];obtain⟨r0,r1,r2,r3⟩:=ce4 c.2.2.1;obtain⟨W,X,Y,f3⟩:=fe4 c.2.2.1;refine zj (rs:=[6]) (by kernel_rfl) (by simp) ?_
 refine zc.consL rfl (λK l=>?_) zc.nil
 go_simp;have i:=f.2.2.2.2.2;unfold ZK qt at i;refine l _ _ (⟨za i.1 0 _ rfl,za i.1 1 _ rfl,za i.1 2 _ rfl⟩) (λr=>?_)
 clear l K r0 W r1 X r2 Y r3 f3 c i;simp only[sZ,sS];refine zX (by kernel_rfl) ?_ _
 go_wp2;have Z3:=f.1;have Z4:=f.2.1;unfold ZK qt at Z3 Z4;obtain⟨z0,z1,z2⟩:=ce3 Z3;obtain⟨t0,t1,t2,t3⟩:=ce4 Z4;have B:=zfS.low a (j,x.san,c1) (m,x.ldn,c2) (n,x.bkn,c3) () () () (va,N,vc);have C:=f.2.2.2.2.2.2.2.own P (λg h1 h2=>h2.elim (λe=>zQ P b.br (by decide) g h1 e) (λe=>zQ P b.ba (by decide) g h1 e))
 unfold ZK qt at B C;exact Jj (v:=.tuple #[_,.agg #[_,_,_,(va,N,vc)]]) (by simp[results,results111,go_sem,z0,z1,z2,t0,t1,t2,t3]) rfl ⟨⟨_,rfl,by rw[← HN.out];exact C⟩,B⟩
theorem zr {w w':World}(h:w.grownBy w' none):Below w.heap.size w w':=bZ.grown h (Jr _) (by simp)
theorem zP {P:Program}{A:Array Oper}{o:Oper}{a:Act}{w:World}{K:Act->World->Prop}{Q:Exit->Act->World->Prop}{E:Prop}
  (l:o.guard=none) (s x:Operand) (t:TypeId) (r:o.op=Op.call { callee:=Callee.builtin Builtin.append,args:=#[s,x],argTypes:=#[t,t] })
  (e:TypeId) (i:TypeInfo) (z:Value) (size bytes:Nat) (h1:P.underlying t=some (.slice e)) (h2:P.info? e=some i) (h3:i.zero=some z) (F:i.size=size) (L:i.bytes=bytes) (M:z.cells.size=size) (N:0<size)
  (base b:Nat) (C:a.eval s=.slice (some (b,0)) 0 0) (O:base<=b) (v:w.heap[b]?=some (.cells #[] e (0,0)))
  (bo:Option Addr) (m c:Nat) (f:List Value) (D:a.eval x=.slice bo m c) (n:bo=none->m=0/\c=0) (I:f.length=m*size) (S:∀ ad,bo=some ad->∀ j u,f[j]?=some u->w.cell? (ad.add j)=some u) (B:∀ u ∈ f,u.oneCell'=true)
  (b1:m<=maxLen) (J:m*bytes<=140737488355328)
  (G:∀ k c' w',w.grownBy w' none->w'.ownsRow base e size (k,m,c') m f->(∀ g,(Value.slice k m c').ownBlock=some g->g=b∨w.heap.size<=g)->K (a.put o.dst (k,m,c')) w') :
  if Region.wanted o (yielded A a.tmps)=true then Oper.wp P o a w K Q else E:=by
 have R:=zM v
 by_cases hm:m=0
 ·subst hm
  have q:=List.eq_nil_of_length_eq_zero (by simpa using I)
  subst q;have H:=G _ 0 w (World.grownBy.refl w _) ⟨by simp,.inr ⟨b,0,#[],rfl,O,v,Jr _,Jq _,by simp,by simp⟩⟩ (λg l=>by simp only[Value.ownBlock,Option.some.injEq] at l;exact .inl l.symm)
  have V:Region.wanted o (yielded A a.tmps)=true:=by simp[Region.wanted,l]
  cases bo with
  | none =>
   obtain⟨_,rfl⟩:=n rfl;rw[Jf V];unfold Oper.wp;have y:(Builtin.append_ #[t,t] o.type #[(some (b,0),0,0),True]).run P w=.ok (some (b,0),0,0) w:=by
    simp[Builtin.append_,run_underlying h1,sizeOf,typeInfo,h2,Builtin.lenOf,Builtin.firstCells,storeCells]
   simp[execOp,r,resolve,invoke,builtin,C,D,y,Result.andThen];exact H
  | some ad=>exact step_append_room l s x t r e i _ h1 h2 F b 0 0 0 C ad 0 c [] D (by simp) (by simp) (by simp) (Jr _) (by simp) (by simpa [World.setCells] using H)
 ·cases bo with
  | none=>exact absurd (n rfl).1 hm
  | some ad =>
   refine step_append_grows l s x t r e i z _ _ h1 h2 h3 F L M N _ 0 0 [] C (by intro h;cases h) (by simp) (by simp) ad m c _ D I (S ad rfl) B (by omega) (by omega) (by rw[Nat.zero_add];exact J) ?_
   intro v' w' d p;rw[Nat.zero_add,List.nil_append] at d;obtain⟨k,c',rfl,T,U,_⟩:=zp d;exact G k c' w' p (zu d (by omega)) (λg l=>.inr (d.lt g l).1)
theorem zfT (w:World)(o p:Obj):((w.alloc o).alloc p).heap[w.heap.size+1]?=some p:=by simpa using Jb (w.alloc o) p
theorem Qa (w:World)(o:Obj)(b:Nat)(h:b=w.heap.size):(w.alloc o).heap[b]?=some o:=by rw[h];exact Jb w o
theorem zeN {w:World}{g t:Nat}{u0 u1 u2:Value}(h:w.heap[g]?=some (.cells #[u0,u1,u2] t (0,0)))(v0 v1 v2:Value):(((w.setCell (g,0) v0).setCell (g,1) v1).setCell (g,2) v2).heap[g]?=some (.cells #[v0,v1,v2] t (0,0)):=by
 simpa using zm (zm (zm h 0 v0) 1 v1) 2 v2
theorem zkQ (w:World)(g:Nat)(v0 v1 v2:Value):zx w (((w.setCell (g,0) v0).setCell (g,1) v1).setCell (g,2) v2) (λb=>b=g):=(((zx.refl w (λb=>b=g)).set (a:=(g,0)) rfl v0).set (a:=(g,1)) rfl v1).set (a:=(g,2)) rfl v2
theorem ziZ (n o p:Option Addr)(c1 c2 c3:Nat)(x:zY)(w:World)(hs:zY.Short x 1048576)(h1:qw w n x.stn x.st)(h2:qp w o x.ron x.ro)(h3:qE w p x.sen x.se)(s1:qj n x.stn c1)(s2:qj o x.ron c2)(s3:qj p x.sen c3) :
  Calls prog 138 #[.agg #[(n,x.stn,c1),(o,x.ron,c2),(p,x.sen,c3)]] w λe w'=>(∃ v1 v2 v3,e=.returned (.agg #[v1,v2,v3])/\w'.ownsRow w.heap.size 220 4 v1 x.stn (zy x.st x.stn)/\w'.ownsRow w.heap.size 228 4 v2 x.ron (zw x.ro x.ron)/\w'.ownsRow w.heap.size 234 2 v3 x.sen (zB x.se x.sen))/\Below w.heap.size w w':=by
 obtain⟨i0,ii,V,W,Y⟩:=info_parts Tryz.infoStay;obtain⟨j0,ji,Z,a0,a4⟩:=info_parts Tryz.infoRoom;obtain⟨k0,ki,a5,a6,a7⟩:=info_parts Tryz.infoSeat;obtain⟨b1,b2,b3⟩:=hs;have R:=hI s1.2.2;have S:=hI s2.2.2;have T:=hI s3.2.2;have K:Hid (_/\_/\_):=⟨h1,h2,h3⟩;clear h1 h2 h3 s1 s2 s3;have l:Below _ w ((w.alloc (.cells #[(n,x.stn,c1),(o,x.ron,c2),(p,x.sen,c3)] 145)).alloc (.cells #[True,True,True] 145)):=zk (zk bZ _) _;have y:((w.alloc _).alloc (.cells #[True,True,True] 145)).heap[w.heap.size]?=some (.cells #[(n,x.stn,c1),(o,x.ron,c2),(p,x.sen,c3)] 145 (0,0)):=zd (Jb w _) _;have L:=zfT w (.cells #[(n,x.stn,c1),(o,x.ron,c2),(p,x.sen,c3)] 145) (.cells #[True,True,True] 145);go_enter func138,ntmps138;go_upto_region 1 with fail;generalize (w.alloc _).alloc _=X at l y L ⊢;have hX:=zM L;have O:Hid (∀ w',_->qw w' n _ _):=λw' h=>K.1.below (ze l h)
 have P:Hid (∀ w',_->qp w' o _ _):=λw' h=>K.2.1.below (ze l h)
 have Q:Hid (∀ w',_->qE w' p _ _):=λw' h=>K.2.2.below (ze l h)
 have KS:Hid (∀ w',Below _ X w'->w'.cell? _=some (.slice n _ c1)/\w'.cell? _=some (.slice o _ c2)/\w'.cell? _=some (.slice p _ c3)):=λw' h=>⟨za (zb y h) 0 _ rfl,za (zb y h) 1 _ rfl,za (zb y h) 2 _ rfl⟩
 have U:Hid (∀ z,Below _ X z->∀ v1 v2 v3 I,I=((z.setCell (w.heap.size+1,0) v1).setCell (w.heap.size+1,1) v2).setCell (w.heap.size+1,2) v3->I.cell? _=some (.slice n _ c1)/\I.cell? _=some (.slice o _ c2)/\I.cell? _=some (.slice p _ c3)):=λz N v1 v2 v3 I e=>by
  subst e;have b:=(zkQ z (w.heap.size+1) v1 v2 v3).blk (zb y N) (by show _;omega)
  exact⟨za b 0 _ rfl,za b 1 _ rfl,za b 2 _ rfl⟩
 have J:Hid (∀ w',Below _ X w'->_):=λw' h=>zb L h
 have f:=hI l;obtain⟨x0,x1,x2⟩:=KS X bZ;have m:Hid (∀ z,Below _ X z->∀ v1 v2 v3,_->_->_->∀ A,A=((z.setCell (w.heap.size+1,0) v1).setCell (w.heap.size+1,1) v2).setCell (w.heap.size+1,2) v3 ->
   A.heap[w.heap.size+1]?=_/\(A.ownsRow _ 220 4 v1 x.stn (zy x.st x.stn)/\A.ownsRow _ 228 4 v2 x.ron (zw x.ro x.ron)/\A.ownsRow _ 234 2 v3 x.sen (zB x.se x.sen))/\_):=λz N v1 v2 v3 o1 o2 o3 A e=>by
  subst e;have M:=zkQ z (w.heap.size+1) v1 v2 v3;have b:=J z N;have hB:=ze f N;exact⟨zeN b v1 v2 v3,⟨M.own (zu o1 f.size) (zQ (zu o1 f.size) b (by decide)),M.own (zu o2 f.size) (zQ (zu o2 f.size) b (by decide)),M.own (zu o3 f.size) (zQ (zu o3 f.size) b (by decide))⟩,zx.below hB hB.size M (λk e=>by have e:=e;omega)⟩
 clear y L l K;go_region_held3 (λw'=>w'.cell? (w.heap.size,0)=some (n,x.stn,c1)/\w'.cell? (w.heap.size,1)=some (o,x.ron,c2)/\w'.cell? (w.heap.size,2)=some (p,x.sen,c3))
  (first|(with_reducible exact U.out u3 j.out _ _ _ _ rfl)|(with_reducible exact U.out u2 i.out _ _ _ _ rfl)|(with_reducible exact U.out u1 g.out _ _ _ _ rfl)|(refine KS.out _ ?_;exact(by repeat(first|exact bZ|refine Jh ?_|refine zk ?_ _|refine ze ?_ (zr a)|refine ze ?_ (zr c)|refine ze ?_ (zr d)))))
  (first
   | (refine zP rfl _ _ 143 rfl 234 k0 _ 2 16 underlying143 ki a5 a6 a7 rfl (by decide) X.heap.size _ rfl (by first | exact Jr _ | omega | (simp;done) | (simp;omega) | (have h1:=g.size;simp;omega) | (have h1:=g.size;omega) | (have h1:=i.size;simp;omega) | (have h1:=i.size;omega)) (by repeat(first | ((with_reducible refine Qa _ _ _ ?_);(first | rfl | (simp;done))) | with_reducible refine zK ?_ | with_reducible refine zd ?_ _ | with_reducible refine zb ?_ (zr a) | with_reducible refine zb ?_ (zr c))) p _ c3 _ rfl T (Zo _ _) (zaP (Q _ (by repeat(first | exact bZ | refine Jh ?_ | refine zk ?_ _ | refine ze ?_ (zr a) | refine ze ?_ (zr c) | refine ze ?_ (zr d))))) (zar _ _) (by unfold maxLen;omega) (by omega) ?_;intro p3 q3 u3 d s H;clear H;have j:Hid (Below _ X u3):=(by repeat(first | exact bZ | refine Jh ?_ | refine zk ?_ _ | refine ze ?_ (zr a) | refine ze ?_ (zr c) | refine ze ?_ (zr d)));have v:=J u3 j;have y0:=za v 0 _ rfl;have y1:=za v 1 _ rfl;have y2:=za v 2 _ rfl;have f0:=zg v 0;have f1:=zg v 1;have f2:=zg v 2;clear v;have E:=hI s;(first | (refine(λ(C:Hid (u3.ownsRow X.heap.size 220 4 (p1,x.stn,q1) x.stn (zy x.st x.stn)))=>?_) (zo ?_ q);rotate_left;(focus(repeat(first | exact bZ | refine Jh ?_ | refine zk ?_ _ | refine ze ?_ (zr d) | refine ze ?_ (zr c))))) | skip);(first | (refine(λ(D:Hid (u3.ownsRow X.heap.size 228 4 (p2,x.ron,q2) x.ron (zw x.ro x.ron)))=>?_) (zo ?_ r);rotate_left;(focus(repeat(first | exact bZ | refine Jh ?_ | refine zk ?_ _ | refine ze ?_ (zr d) | refine ze ?_ (zr a))))) | skip))
   | (refine zP rfl _ _ 142 rfl 228 j0 _ 4 32 underlying142 ji Z a0 a4 rfl (by decide) X.heap.size _ rfl (by first | exact Jr _ | omega | (simp;done) | (simp;omega) | (have h1:=g.size;simp;omega) | (have h1:=g.size;omega) | (have h1:=j.size;simp;omega) | (have h1:=j.size;omega)) (by repeat(first | ((with_reducible refine Qa _ _ _ ?_);(first | rfl | (simp;done))) | with_reducible refine zK ?_ | with_reducible refine zd ?_ _ | with_reducible refine zb ?_ (zr a) | with_reducible refine zb ?_ (zr d))) o _ c2 _ rfl S (qK _ _) (Qv (P _ (by repeat(first | exact bZ | refine Jh ?_ | refine zk ?_ _ | refine ze ?_ (zr a) | refine ze ?_ (zr c) | refine ze ?_ (zr d))))) (Z5 _ _) (by unfold maxLen;omega) (by omega) ?_;intro p2 q2 u2 c r G;clear G;have i:Hid (Below _ X u2):=(by repeat(first | exact bZ | refine Jh ?_ | refine zk ?_ _ | refine ze ?_ (zr a) | refine ze ?_ (zr c) | refine ze ?_ (zr d)));have u:=J u2 i;have y0:=za u 0 _ rfl;have y1:=za u 1 _ rfl;have y2:=za u 2 _ rfl;have f0:=zg u 0;have f1:=zg u 1;have f2:=zg u 2;clear u;have D:=hI r;(first | (refine(λ(C:Hid (u2.ownsRow X.heap.size 220 4 (p1,x.stn,q1) x.stn (zy x.st x.stn)))=>?_) (zo ?_ q);rotate_left;(focus(repeat(first | exact bZ | refine Jh ?_ | refine zk ?_ _ | refine ze ?_ (zr c) | refine ze ?_ (zr d))))) | skip);(first | (refine(λ(E:Hid (u2.ownsRow X.heap.size 234 2 (p3,x.sen,q3) x.sen (zB x.se x.sen)))=>?_) (zo (w:=u3) ?_ s);rotate_left;(focus(repeat(first | exact bZ | refine Jh ?_ | refine zk ?_ _ | refine ze ?_ (zr c) | refine ze ?_ (zr a))))) | skip))
   | (refine zP rfl _ _ 141 rfl 220 i0 _ 4 32 underlying141 ii V W Y rfl (by decide) X.heap.size _ rfl (by first | exact Jr _ | omega | (simp;done) | (simp;omega) | (have h1:=i.size;simp;omega) | (have h1:=i.size;omega) | (have h1:=j.size;simp;omega) | (have h1:=j.size;omega)) (by repeat(first | ((with_reducible refine Qa _ _ _ ?_);(first | rfl | (simp;done))) | with_reducible refine zK ?_ | with_reducible refine zd ?_ _ | with_reducible refine zb ?_ (zr c) | with_reducible refine zb ?_ (zr d))) n _ c1 _ rfl R (ZR _ _) (zal (O _ (by repeat(first | exact bZ | refine Jh ?_ | refine zk ?_ _ | refine ze ?_ (zr a) | refine ze ?_ (zr c) | refine ze ?_ (zr d))))) (QQ _ _) (by unfold maxLen;omega) (by omega) ?_;intro p1 q1 u1 a q F;clear F;have g:Hid (Below _ X u1):=(by repeat(first | exact bZ | refine Jh ?_ | refine zk ?_ _ | refine ze ?_ (zr a) | refine ze ?_ (zr c) | refine ze ?_ (zr d)));have t:=J u1 g;have y0:=za t 0 _ rfl;have y1:=za t 1 _ rfl;have y2:=za t 2 _ rfl;have f0:=zg t 0;have f1:=zg t 1;have f2:=zg t 2;clear t;have C:=hI q;(first | (refine(λ(D:Hid (u1.ownsRow X.heap.size 228 4 (p2,x.ron,q2) x.ron (zw x.ro x.ron)))=>?_) (zo (w:=u2) ?_ r);rotate_left;(focus(repeat(first | exact bZ | refine Jh ?_ | refine zk ?_ _ | refine ze ?_ (zr a) | refine ze ?_ (zr d))))) | skip);(first | (refine(λ(E:Hid (u1.ownsRow X.heap.size 234 2 (p3,x.sen,q3) x.sen (zB x.se x.sen)))=>?_) (zo (w:=u3) ?_ s);rotate_left;(focus(repeat(first | exact bZ | refine Jh ?_ | refine zk ?_ _ | refine ze ?_ (zr a) | refine ze ?_ (zr c))))) | skip)))
 all_goals
  first
   | (have B:=hI (m u3 j _ _ _ C D E _ rfl))
   | (have B:Hid _:=m u2 i _ _ _ C D E _ rfl)
   | (have B:Hid _:=m u1 g _ _ _ C D E _ rfl)
  go_wp2;have rF:=B.1;obtain⟨t0,t1,t2⟩:=ce3 rF;exact Jj (by simp[results,results138,go_sem,t0,t1,t2]) rfl ⟨⟨_,_,_,rfl,B.2.1⟩,B.2.2⟩
end Go.Proofs.YtmdnjgihooflfaaGreatDoor

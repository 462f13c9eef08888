/-
  OWN TEXT: PlainRows, InfoMRow, RowsI, ConcatI, RouteI, SettE, Kit3.
-/
import Derived.Test.YtmdnjgihooflfaaGreatDoorRows
import Derived.Deep.RegionHeld3
import Derived.Deep.LoopGhost
import Derived.Lib.AppendZeros
import Derived.Deep.DeepCutAuto
import Derived.Deep.RegionLawGrows
import Derived.Test.YtmdnjgihooflfaaGreatDoorB21
namespace Go.Proofs.YtmdnjgihooflfaaGreatDoor
open Go.RowKit
open Go.Value (int)
open Go.IntKind (i64)
open Tryz
set_option maxHeartbeats 64000000
set_option maxRecDepth 100000
section
open Go.RowKit Classical
def zas (S:Nat->Zp)(q:Int):Nat->Int
 | 0=>-1
 | n+1=>if (S n).who=q then (S n).ln else zas S q n
def QA (S:Nat->qN)(q:Int):Nat->Int
 | 0=>-1
 | n+1=>if (S n).who=q then (S n).cab else QA S q n
def zhD (l:zY)(b:ql):zcB:=⟨b.name,b.own,b.pe,zas l.st b.who l.stn,QA l.ro b.who l.ron⟩
def OnZ (b:ql)(z:Int):Prop:=zez b/\HasLeg b z
noncomputable def Qn (l:zY)(S:Nat->ql)(z:Int):Nat->List zcB
 | 0=>[]
 | n+1=>if OnZ (S n) z then Qn l S z n++[zhD l (S n)] else Qn l S z n
theorem zeL {l:zY}{S:Nat->ql}{z:Int}{n:Nat}(h:OnZ (S n) z):Qn l S z (n+1)=Qn l S z n++[zhD l (S n)]:=by rw[Qn,Jf h]
theorem zdW {l:zY}{S:Nat->ql}{z:Int}{n:Nat}(h:¬ OnZ (S n) z):Qn l S z (n+1)=Qn l S z n:=by rw[Qn,Je h]
theorem zmL (l:zY)(S:Nat->ql)(z:Int)(n:Nat):(Qn l S z n).length<=n:=by
 induction n with
 | zero=>exact Jr _
 | succ n ih =>
  by_cases h:OnZ (S n) z
  ·rw[zeL h,List.length_append];simp;omega
  ·rw[zdW h];omega
def zeM (l:List zcB)(j:Nat):zcB:=l.getD j zcB.zero
theorem zkP (l:List zcB)(r:zcB):qW (zeM (l++[r])) (l.length+1)=qW (zeM l) l.length++[int i64 r.name,.string r.own,int i64 r.pe,int i64 r.ln,int i64 r.cab]:=by
 rw[zbd];have a:zeM (l++[r]) l.length=r:=by simp[zeM]
 have b:qW (zeM (l++[r])) _=qW (zeM l) _:=zcX (λi c=>by unfold zeM;rw[List.getD_eq_getElem?_getD,List.getD_eq_getElem?_getD,List.getElem?_append_left c])
 rw[a,b]
end
theorem Tryz.infoRow:(Tryz.prog.info? 203).map (λi=>(i.zero,i.size,i.bytes))=some (some (.agg #[int i64 0,.string ⟨#[]⟩,int i64 0,int i64 0,int i64 0]),5,48):=by kernel_rfl
section
variable{q:Int}{n:Nat}{w:World}
open Go.RowKit Classical
theorem lastLn_no {S:Nat->Zp}(h:∀ j,j<n->(S j).who≠q):zas S q n=-1:=by
 induction n with
 | zero=>rfl
 | succ n ih=>rw[zas,Je (h n (by omega)),ih (λj hj=>h j (by omega))]
theorem lastLn_is {S:Nat->Zp}{i:Nat}(hi:i<n)(a:(S i).who=q)(h:∀ j,j<n->(S j).who=q->j=i):zas S q n=(S i).ln:=by
 induction n with
 | zero=>omega
 | succ n ih =>
  by_cases c:(S n).who=q
  ·rw[zas,Jf c,h n (by omega) c]
  ·rw[zas,Je c]
   exact ih (by have:i≠n:=λe=>c (e ▸ a);omega) (λj hj=>h j (by omega))
theorem znJ {S:Nat->qN}(h:∀ j,j<n->(S j).who≠q):QA S q n=-1:=by
 induction n with
 | zero=>rfl
 | succ n ih=>rw[QA,Je (h n (by omega)),ih (λj hj=>h j (by omega))]
theorem znK {S:Nat->qN}{i:Nat}(hi:i<n)(a:(S i).who=q)(h:∀ j,j<n->(S j).who=q->j=i):QA S q n=(S i).cab:=by
 induction n with
 | zero=>omega
 | succ n ih =>
  by_cases c:(S n).who=q
  ·rw[QA,Jf c,h n (by omega) c]
  ·rw[QA,Je c]
   exact ih (by have:i≠n:=λe=>c (e ▸ a);omega) (λj hj=>h j (by omega))
theorem lane_ix {s:Zj}{l:zY}(h:qm s l)(q:Int):zas l.st q l.stn=if zaj (Qc l.st) q l.stn<l.stn then (l.st (zaj (Qc l.st) q l.stn)).ln else -1:=by
 have u1:∀ i,_->¬ Has _ i (Qc _ i):=λi b=>(h.1.2.2.1 i b).2.2.2.2
 by_cases c:zaj (Qc l.st) q l.stn<l.stn
 ·rw[Jf c];exact lastLn_is c (zdn _ q _ c) (λj a e=>(zeJ u1 a e).symm)
 ·rw[Je c];exact lastLn_no (λj a e=>c ((zdo _ _ _).1 ⟨j,a,e⟩))
theorem cab_ix {s:Zj}{l:zY}(h:qm s l)(q:Int):QA l.ro q l.ron=if zaj (ZV l.ro) q l.ron<l.ron then (l.ro (zaj (ZV l.ro) q l.ron)).cab else -1:=by
 have u1:∀ i,_->¬ Has _ i (ZV _ i):=λi b=>(h.2.1.2.2.1 i b).1.2.1
 by_cases c:zaj (ZV l.ro) q l.ron<l.ron
 ·rw[Jf c];exact znK c (zdn _ q _ c) (λj a e=>(zeJ u1 a e).symm)
 ·rw[Je c];exact znJ (λj a e=>c ((zdo _ _ _).1 ⟨j,a,e⟩))
theorem rowsL_on (l:zY)(S:Nat->ql)(z:Int)(n:Nat):(Qn l S z n).length=(onL (λi=>OnB (S i) z) n).length/\∀ j,j<(onL (λi=>OnB (S i) z) n).length->zeM (Qn l S z n) j=zhD l (S (onI (λi=>OnB (S i) z) n j)):=by
 induction n with
 | zero=>exact⟨rfl,λj a=>by simp[onL] at a⟩
 | succ n ih =>
  obtain⟨c,f⟩:=ih
  by_cases h:OnB (S n) z
  ·have d:OnZ _ z:=h
   rw[zeL d,zbZ h,List.length_append,List.length_append,c];refine⟨rfl,λj a=>?_⟩
   by_cases e:j=(onL (λi=>OnB (S i) z) n).length
   ·subst e
    rw[zdV _ h];unfold zeM;rw[← c];simp
   ·have b:j<(onL (λi=>OnB (S i) z) n).length:=by simp at a;omega
    rw[zcQ _ b,← f j b];unfold zeM;rw[List.getD_eq_getElem?_getD,List.getD_eq_getElem?_getD,List.getElem?_append_left (by omega)]
  ·have d:¬ OnZ _ z:=h
   rw[zdW d,zfJ h];exact⟨c,λj a=>by rw[zcQ _ a,← f j a]⟩
theorem rowLn_set {g t:Nat}{u0 u1 u2 u3 u4:Value}(h:w.heap[g]?=some (.cells #[u0,u1,u2,u3,u4] t (0,0)))(v:Value):(w.setCell (g,3) v).heap[g]?=some (.cells #[u0,u1,u2,v,u4] t (0,0)):=by simpa using zm h 3 v
theorem zib {g t:Nat}{u0 u1 u2 u3 u4:Value}(h:w.heap[g]?=some (.cells #[u0,u1,u2,u3,u4] t (0,0)))(v:Value):(w.setCell (g,4) v).heap[g]?=some (.cells #[u0,u1,u2,u3,v] t (0,0)):=by simpa using zm h 4 v
theorem znL (x:Off)(h0 g8 a2:Option Addr)(b8 h6 a6 k:Nat)(w:World)(hs:Off.Short x 1048576)(i4:qB w h0 x.san x.sa)(d3:ZG w g8 x.ldn x.ld)(j9:qO w a2 x.bkn x.bk)(k3:x.bkn<=30)(k4:k<x.san)(k5:x.ldn=x.san)(f6:qm (x.sa k) (x.ld k)) :
  Calls prog 204 #[.agg #[.slice h0 x.san b8,.slice g8 x.ldn h6,.slice a2 x.bkn a6],int i64 k] w λe w'=>(∃ v,e=.returned v/\w'.ownsRow w.heap.size 203 5 v (Qn (x.ld k) x.bk (x.sa k).id x.bkn).length (qW (zeM (Qn (x.ld k) x.bk (x.sa k).id x.bkn)) (Qn (x.ld k) x.bk (x.sa k).id x.bkn).length))/\Below w.heap.size w w':=by
 obtain⟨j0,ji,d6,d7,d8⟩:=info_parts Tryz.infoRow;have g6:=hI hs;obtain⟨sb,so,_,_,_,_,rfl,f0,_⟩:=i4 k k4;obtain⟨zi,i6⟩:∃ z,z=(x.sa k).id:=⟨_,rfl⟩;rw[← i6] at f0 ⊢;have k9:sb<w.heap.size:=Ja w _ f0;obtain⟨D,hD,hJ⟩:=d3;obtain⟨lb,lo,rfl,M⟩:=hD k (by omega)
 obtain⟨l,d3⟩:∃ l,l=x.ld k:=⟨_,rfl⟩;obtain⟨b5,b9,b4,b7,h4,h7,L,f8,i9,f7,i7,i5,i8⟩:=hJ k (by omega)
 have d4:=hs.2.1.2 k (by omega)
 rw[← d3] at L f8 i9 f7 i7 i5 i8 d4 f6 ⊢;have n2:=d4.1;have n3:=d4.2.1;have f9:lb<w.heap.size:=Ja w _ (M 0 (by decide))
 have g7:=hI f8;have b2:=hI f7;have g5:=hI f6;obtain⟨C,hC,hI⟩:=j9;have HC:=hI hC;have HI:Hid _:=hI;have g4:Hid _:=f0;have d0:∀ o,(w.alloc o).cell? _=some (.slice b5 _ b9):=λo=>((zk (Ji _ w) o).cell (p:=⟨lb,lo+_,_⟩) f9).trans (by have:=M 0 (by decide);rw[L] at this;exact this)
 have d1:∀ o,(w.alloc o).cell? _=some (.slice b4 _ b7):=λo=>((zk (Ji _ w) o).cell f9).trans (by have:=M 1 (by decide);rw[L] at this;exact this)
 have d2:∀ o,(w.alloc o).cell? _=some (.slice h4 _ h7):=λo=>((zk (Ji _ w) o).cell f9).trans (by have:=M 2 (by decide);rw[L] at this;exact this)
 obtain⟨P,hP⟩:∃ P,P=λi=>OnB (x.bk i) zi:=⟨_,rfl⟩
 obtain⟨m,d5⟩:∃ m,m=(onL P x.bkn).length:=⟨_,rfl⟩;have l0:m<=30:=by rw[d5];exact Jp (onL_le P _) k3
 have e5:Hid _:=d5;have e1:Hid ((Qn l x.bk zi x.bkn).length=m/\∀ j,j<m->zeM (Qn l x.bk zi x.bkn) j=zhD l (x.bk (onI P x.bkn j))):=by
  show _/\_
  rw[d5,hP];exact rowsL_on l _ zi _
 obtain⟨B,e6⟩:∃ B,B=λj=>x.bk (onI P x.bkn j):=⟨_,rfl⟩
 obtain⟨C',e7⟩:∃ C',C'=λj=>C (onI P x.bkn j):=⟨_,rfl⟩
 have j3:Hid (∀ j,_->ql.Is w (C' j) (B j)):=λj hj=>by
  rw[e7,e6];exact HI _ (zmJ P _ j (by rw[← e5.out];exact hj)).1
 have j4:Hid (∀ j,_->zeM _ j=zhD l (B j)):=λj hj=>by rw[e6];exact e1.2 j hj
 have g3:Hid (∀ w',_->Calls _ 101 _ w' λe w2=>(∃ ao c,e=.returned (.slice ao m c)/\QT w2 ao m 13 C')/\_):=λw' h =>
  (zeg a2 _ a6 _ C zi w' g6.out.2.2.1 g6.out.2.2.2 (HC.out.below h) (λj hj=>(HI.out j hj).below h)).mono λ_ _ ⟨⟨ao,c,a,_,b⟩,d⟩=>by
   rw[e5.out,e7,hP];exact⟨⟨ao,c,a,QT.of_own b⟩,d⟩
 have k0:(0:Int)<=(k:Int):=by omega
 have k1:(k:Int)<(x.ldn:Int):=by omega
 have k2:(k:Int)<(x.san:Int):=by omega
 clear k5 i4 hD hJ M L f8 i9 f7 i7 i5 i8 d4 hC hI f0 d5 e6 e7 hP hs f6 i6 d3 HC HI e5;have Y:Below _ w ((w.alloc (.cells #[(some (sb,so),x.san,b8),(some (lb,lo),x.ldn,h6),(a2,x.bkn,a6)] 38)).alloc (.cells #[(b5,l.stn,b9),(b4,l.ron,b7),(h4,l.sen,h7)] 145)):=zk (zk bZ _) _;have bO:=zoQ Y;have bL:=zoR Y;go_enter func204,ntmps204;go_upto_region 3 with fail;generalize (w.alloc _).alloc _=X at Y bO bL ⊢;clear d0 d1 d2;have BW:Hid (∀ w',_->Below _ w w'):=λw' h=>ze Y h
 have KS:Hid (∀ w',Below _ X w'->(w'.cell? _=some (.slice _ _ b8)/\w'.cell? _=some (.slice a2 _ a6)/\_)):=λw' h=>by
  have g2:=zb bO h;exact⟨za g2 0 _ rfl,za g2 2 _ rfl,((ze Y h).cell k9).trans g4⟩
 go_cut [25,26,27] (λv nn i wx=>∃ ao c,v=.slice ao m c/\nn=int i64 m/\i=int i64 0/\QT wx ao m 13 C'/\Below X.heap.size X wx)
 case first =>
  go_region_held3 (λw'=>w'.cell? (w.heap.size,0)=some (some (sb,so),x.san,b8)/\w'.cell? (w.heap.size,2)=some (a2,x.bkn,a6)/\w'.cell? (sb,so+k*8)=some (int i64 zi))
   ((refine KS _ ?_;exact(by repeat(first|exact bZ|refine Jh ?_|refine ze ?_ e8))))
   (first|(go_at_call 101;refine Jm (g3 _ (BW _ (by repeat(first|exact bZ|refine Jh ?_|refine ze ?_ e8)))) ?_;rintro e w4 ⟨⟨g9,c4,rfl,k6⟩,e8⟩))
  all_goals
   go_wp2;go_meet;exact⟨g9,c4,rfl,rfl,rfl,QT.below k6 (by repeat(first|exact bZ|refine Jh ?_)),(by repeat(first|exact bZ|refine Jh ?_|refine ze ?_ e8))⟩
 case rest =>
 obtain⟨g9,c4,rfl,rfl,rfl,e3,e9⟩:=hcut;have j5:=hI e3;have S:=ze Y e9;have h5:=zb bL e9;have U:=hI h5;clear e3 bO bL Y e9 KS BW g3 g4 h5 k0 k1 k2;obtain⟨R,hR⟩:∃ R,R=λj=>zhD l (B j):=⟨_,rfl⟩
 have HR:Hid (∀ j,R j=_):=λj=>by rw[hR]
 clear hR;go_wp2;go_loopw [5,8,9,10,11,27] (λv _ _ _ _ q wr=>∃ i,i<=m/\q=int i64 i/\wr.ownsRow wc.heap.size 203 5 v i (qW R i)/\Below wc.heap.size wc wr) (λ_ _ _ _ _ q _=>m - (intOf q).toNat)
 case atStart=>exact⟨0,Jq _,rfl,⟨rfl,.inl ⟨rfl,rfl⟩⟩,bZ⟩
 case round =>
  obtain⟨i,hi,rfl,a1,f⟩:=hrel;have i0:=ze S f
  by_cases hlt2:i<m
  ·obtain⟨bb,bo,rfl,M⟩:=j5 i hlt2
   obtain⟨b,f1⟩:∃ b,b=B i:=⟨_,rfl⟩;obtain⟨b3,b6,L,_,_⟩:=j3 i hlt2;rw[← f1] at L;have j2:=hI f1;have G:bb<wc.heap.size:=Ja wc _ (M 0 (by decide))
   have c0:wr.cell? _=some (.int _ _):=(f.cell (p:=⟨bb,bo+_,_⟩) G).trans (by have:=M 0 (by decide);rw[L] at this;exact this)
   have c1:wr.cell? _=some (.int _ _):=(f.cell G).trans (by have:=M 1 (by decide);rw[L] at this;exact this)
   have c2:wr.cell? _=some (.string _):=(f.cell G).trans (by have:=M 2 (by decide);rw[L] at this;exact this)
   have c3:wr.cell? _=some (.slice b3 _ b6):=(f.cell G).trans (by have:=M 3 (by decide);rw[L] at this;exact this)
   have c4:wr.cell? _=some (.int _ _):=(f.cell G).trans (by have:=M 4 (by decide);rw[L] at this;exact this)
   have c5:wr.cell? _=some (.int _ _):=(f.cell G).trans (by have:=M 5 (by decide);rw[L] at this;exact this)
   have c6:wr.cell? _=some (.int _ _):=(f.cell G).trans (by have:=M 6 (by decide);rw[L] at this;exact this)
   have c7:wr.cell? _=some (.int _ _):=(f.cell G).trans (by have:=M 7 (by decide);rw[L] at this;exact this)
   have c8:wr.cell? _=some (.bool _):=(f.cell G).trans (by have:=M 8 (by decide);rw[L] at this;exact this)
   have c9:wr.cell? _=some (.int _ _):=(f.cell G).trans (by have:=M 9 (by decide);rw[L] at this;exact this)
   have j6:wr.cell? _=some (.int _ _):=(f.cell G).trans (by have:=M 10 (by decide);rw[L] at this;exact this)
   have j7:wr.cell? _=some (.int _ _):=(f.cell G).trans (by have:=M 11 (by decide);rw[L] at this;exact this)
   have j8:wr.cell? _=some (.int _ _):=(f.cell G).trans (by have:=M 12 (by decide);rw[L] at this;exact this)
   clear M L f1;have bB:((wr.alloc _).alloc (.cells #[b.name,b.own,b.pe,int i64 (-1),int i64 (-1)] 203)).heap[wr.heap.size]?=some (.cells (b,b3,b6) 150 (0,0)):=zd (Jb wr _) _;have bR:=zoT bB;have a7:Below _ wc ((wr.alloc (.cells (b,b3,b6) 150)).alloc (.cells #[b.name,b.own,b.pe,int i64 (-1),int i64 (-1)] 203)):=zk (zk f _) _;have J:=zo (zk (zk (Ji _ wr) (.cells (b,b3,b6) 150)) (.cells #[b.name,b.own,b.pe,int i64 (-1),int i64 (-1)] 203)) a1;have a5:=hI (λg hg=>(a1.lt g hg).2)
   have d9:((wr.alloc _).alloc _).cell? _=some (.slice b5 _ b9):=za (zb U a7) 0 _ rfl;have y1:=za bB 1 _ rfl;have k7:=f.size;go_wp2_with fail;generalize hrb:wr.heap.size=rb at bB bR a5 y1 k7 ⊢;generalize (wr.alloc _).alloc _=R0 at bB bR a7 J d9 y1 ⊢;clear hrb c0 c1 c2 c3 c4 c5 c6 c7 c8 c9 j6 j7 j8 f i0 a1 d9 y1;refine(zbz b5 _ b9 _ _ _ n2 (g7.below (ze S a7))).mono ?_;rintro e Y1 ⟨rfl,t⟩;have K:=zb bB t;have y:=zb bR t;have N:zx R0 Y1 (λg=>g=rb+1):=zx.of_below t
   have A:=ze a7 t;clear bB bR t a7;have l2:wc.heap.size<rb+1:=by omega
   have e4:=hI (lane_ix g5 b.who);have a3:=hI (cab_ix g5 b.who);obtain⟨ln,f5⟩:∃ x,x=zas l.st b.who l.stn:=⟨_,rfl⟩;obtain⟨I,f2⟩:∃ x,x=QA l.ro b.who l.ron:=⟨_,rfl⟩;rw[← f5] at e4;rw[← f2] at a3;have b1:Hid (R i=⟨b.name,b.own,b.pe,ln,I⟩):=by show R i=_;rw[HR.out,← j2.out];unfold zhD;rw[f5,f2]
   clear f5 f2;have l1:¬ (w.heap.size+1=rb+1):=by have:=zM U;omega
   have a8:¬ (rb=rb+1):=by omega
   have f4:wc.heap.size<=rb+1:=by omega
   by_cases hf1:zaj (Qc l.st) b.who l.stn<l.stn
   ·skip
    rw[zcz hf1];have a4:Hid (ln=(l.st (zaj (Qc l.st) b.who l.stn)).ln):=by have:=e4;rw[Jf hf1] at this;exact this
    obtain⟨q1,e2⟩:∃ q,q=zaj (Qc l.st) b.who l.stn:=⟨_,rfl⟩;rw[← e2] at hf1 a4 ⊢;clear e2;obtain⟨tb,j1,rfl,g0,g1,_,_⟩:=g7 q1 hf1;have b0:=Ja w _ g0;have s1:Y1.cell? _=some (.int _ ln):=((ze S A).cell (p:=⟨tb,_+1,_⟩) b0).trans (by rw[a4.out];exact g1)
    have d0:decide (0<=(q1:Int))=true:=by simp
    have i1:(0:Int)<=(q1:Int):=by omega
    have i2:(q1:Int)<(l.stn:Int):=by omega
    have d9:=za (zb U A) 0 _ rfl;have r3:=za y 3 _ rfl;have z3:=zg y 3;have E:=rowLn_set y ln;have H:=zD K 3 ln a8;have F:=N.set (a:=⟨_,3,none⟩) rfl ln;have s:Below _ wc (Y1.setCell _ ln):=A.setCell (p:=⟨_,3,none⟩) f4 _;have y1:=za H 1 _ rfl;have e0:=za (zb U s) 1 _ rfl;go_wp2_with fail;generalize (Y1.setCell _ _)=Z1 at E H F s y1 e0 ⊢;clear y K N A y1 e0 s1 d0 i1 i2 d9 r3 z3 g0 g1;refine(QF b4 _ b7 _ _ _ n3 (b2.below (ze S s))).mono ?_;rintro e Q ⟨rfl,t⟩;have K:=zb H t;have y:=zb E t;have N:=F.trans (zx.of_below t);have A:=ze s t;clear H E F s t
    by_cases hf2:zaj (ZV l.ro) b.who l.ron<l.ron
    ·skip
     rw[zcz hf2];have O:Hid (I=(l.ro (zaj (ZV l.ro) b.who l.ron)).cab):=by have:=a3;rw[Jf hf2] at this;exact this
     obtain⟨q2,T⟩:∃ q,q=zaj (ZV l.ro) b.who l.ron:=⟨_,rfl⟩;rw[← T] at hf2 O ⊢;clear T;obtain⟨tb,j1,rfl,g0,g1,_,_⟩:=b2 q2 hf2;have b0:=Ja w _ g0;have s1:Q.cell? _=some (.int _ I):=((ze S A).cell (p:=⟨tb,_+1,_⟩) b0).trans (by rw[O.out];exact g1)
     have d0:decide (0<=(q2:Int))=true:=by simp
     have i1:(0:Int)<=(q2:Int):=by omega
     have i2:(q2:Int)<(l.ron:Int):=by omega
     have k8:=za (zb U A) 1 _ rfl;have r3:=za y 4 _ rfl;have z3:=zg y 4;have E:=zib y I;have H:=zD K 4 I a8;have F:=N.set (a:=⟨_,4,none⟩) rfl I;have s:Below _ wc (Q.setCell _ I):=A.setCell (p:=⟨_,4,none⟩) f4 _;obtain⟨t0,t1,t2,t3,t4⟩:=ce5 E;have n:=F.own J (λg hg e=>by have:=a5 g hg;have e:=e;omega)
     have r:wc.heap.size<=((Q.setCell _ _).alloc (.cells #[b.name,b.own,b.pe,ln,I] 203)).heap.size:=(zk s _).size;have V:Hid (∀ W,(some ⟨(Q.setCell ⟨rb+1,4,none⟩ (int i64 I)).heap.size,0,none⟩:Option Addr)=some W->∀ j u,([int i64 b.name,.string b.own,int i64 b.pe,int i64 ln,int i64 I]:_)[j]?=some u->((Q.setCell ⟨rb+1,4,none⟩ (int i64 I)).alloc (.cells #[int i64 b.name,.string b.own,int i64 b.pe,int i64 ln,int i64 I] 203)).cell? (W.add j)=some u):=by
      intro W e
      cases e
      exact Jo (Jb _ _)
     go_wp2_with (first|(at_builtin;refine zv _ (by rfl) _ _ 39 (by rfl) _ 203 j0 _ 5 48 underlying39 ji d6 d7 d8 rfl (by decide) _ i _ (by rfl) (n.alloc _) _ 1 1 [_,_,_,_,_] (by rfl) (λh=>(by cases h)) (by rfl) (by simpa using V.out) (by intro u hu;simp at hu;rcases hu with rfl|rfl|rfl|rfl|rfl <;> rfl) (by unfold maxLen;omega) (by omega) (by first|exact r|simpa using r) ?_;intro v' w3 a0 Z))
     go_roundw
     case rel =>
      refine⟨i+1,by omega,by go_num,?_,(zk s _).grown Z r (λj hj=>(n.lt j hj).1)⟩
      rw[zbd,b1.out];exact a0
     case measure=>simp[intOf];omega
    ·skip
     have O:Hid (I=-1):=by have:=a3;rw[Je hf2] at this;exact this
     have a9:=zcA hf2;rw[a9];clear a9;have E:=y;have H:=K;have F:=N;have s:=A;obtain⟨t0,t1,t2,t3,t4⟩:=ce5 E;have n:=F.own J (λg hg e=>by have:=a5 g hg;have e:=e;omega)
     have r:wc.heap.size<=(Q.alloc (.cells #[b.name,b.own,b.pe,ln,int i64 (-1)] 203)).heap.size:=(zk s _).size;have V:Hid (∀ W,(some ⟨Q.heap.size,0,none⟩:Option Addr)=some W->∀ j u,([int i64 b.name,.string b.own,int i64 b.pe,int i64 ln,int i64 (-1)]:_)[j]?=some u->(Q.alloc (.cells #[int i64 b.name,.string b.own,int i64 b.pe,int i64 ln,int i64 (-1)] 203)).cell? (W.add j)=some u):=by
      intro W e
      cases e
      exact Jo (Jb Q _)
     go_wp2_with (first|(at_builtin;refine zv _ (by rfl) _ _ 39 (by rfl) _ 203 j0 _ 5 48 underlying39 ji d6 d7 d8 rfl (by decide) _ i _ (by rfl) (n.alloc _) _ 1 1 [_,_,_,_,_] (by rfl) (λh=>(by cases h)) (by rfl) (by exact V) (by intro u hu;simp at hu;rcases hu with rfl|rfl|rfl|rfl|rfl <;> rfl) (by unfold maxLen;omega) (by omega) (by first|exact r|simpa using r) ?_;intro v' w3 a0 Z))
     go_roundw
     case rel =>
      refine⟨i+1,by omega,by go_num,?_,(zk s _).grown Z r (λj hj=>(n.lt j hj).1)⟩
      rw[zbd,b1.out];rw[O.out];exact a0
     case measure=>simp[intOf];omega
   ·skip
    have a4:Hid (ln=-1):=by have:=e4;rw[Je hf1] at this;exact this
    have i3:=zcA hf1;rw[i3];clear i3;have E:=y;have H:=K;have F:=N;have s:=A;have y1:=za H 1 _ rfl;have e0:=za (zb U s) 1 _ rfl;go_wp2_with fail;clear y K N A y1 e0 ;refine(QF b4 _ b7 _ _ _ n3 (b2.below (ze S s))).mono ?_;rintro e Q ⟨rfl,t⟩;have K:=zb H t;have y:=zb E t;have N:=F.trans (zx.of_below t);have A:=ze s t;clear H E F s t
    by_cases hf2:zaj (ZV l.ro) b.who l.ron<l.ron
    ·skip
     rw[zcz hf2];have O:Hid (I=(l.ro (zaj (ZV l.ro) b.who l.ron)).cab):=by have:=a3;rw[Jf hf2] at this;exact this
     obtain⟨q2,T⟩:∃ q,q=zaj (ZV l.ro) b.who l.ron:=⟨_,rfl⟩;rw[← T] at hf2 O ⊢;clear T;obtain⟨tb,j1,rfl,g0,g1,_,_⟩:=b2 q2 hf2;have b0:=Ja w _ g0;have s1:Q.cell? _=some (.int _ I):=((ze S A).cell (p:=⟨tb,_+1,_⟩) b0).trans (by rw[O.out];exact g1)
     have d0:decide (0<=(q2:Int))=true:=by simp
     have i1:(0:Int)<=(q2:Int):=by omega
     have i2:(q2:Int)<(l.ron:Int):=by omega
     have k8:=za (zb U A) 1 _ rfl;have r3:=za y 4 _ rfl;have z3:=zg y 4;have E:=zib y I;have H:=zD K 4 I a8;have F:=N.set (a:=⟨_,4,none⟩) rfl I;have s:Below _ wc (Q.setCell _ I):=A.setCell (p:=⟨_,4,none⟩) f4 _;obtain⟨t0,t1,t2,t3,t4⟩:=ce5 E;have n:=F.own J (λg hg e=>by have:=a5 g hg;have e:=e;omega)
     have r:wc.heap.size<=((Q.setCell _ _).alloc (.cells #[b.name,b.own,b.pe,int i64 (-1),I] 203)).heap.size:=(zk s _).size;have V:Hid (∀ W,(some ⟨(Q.setCell ⟨rb+1,4,none⟩ (int i64 I)).heap.size,0,none⟩:Option Addr)=some W->∀ j u,([int i64 b.name,.string b.own,int i64 b.pe,int i64 (-1),int i64 I]:_)[j]?=some u->((Q.setCell ⟨rb+1,4,none⟩ (int i64 I)).alloc (.cells #[int i64 b.name,.string b.own,int i64 b.pe,int i64 (-1),int i64 I] 203)).cell? (W.add j)=some u):=by
      intro W e
      cases e
      exact Jo (Jb _ _)
     go_wp2_with (first|(at_builtin;refine zv _ (by rfl) _ _ 39 (by rfl) _ 203 j0 _ 5 48 underlying39 ji d6 d7 d8 rfl (by decide) _ i _ (by rfl) (n.alloc _) _ 1 1 [_,_,_,_,_] (by rfl) (λh=>(by cases h)) (by rfl) (by simpa using V.out) (by intro u hu;simp at hu;rcases hu with rfl|rfl|rfl|rfl|rfl <;> rfl) (by unfold maxLen;omega) (by omega) (by first|exact r|simpa using r) ?_;intro v' w3 a0 Z))
     go_roundw
     case rel =>
      refine⟨i+1,by omega,by go_num,?_,(zk s _).grown Z r (λj hj=>(n.lt j hj).1)⟩
      rw[zbd,b1.out];rw[a4.out];exact a0
     case measure=>simp[intOf];omega
    ·skip
     have O:Hid (I=-1):=by have:=a3;rw[Je hf2] at this;exact this
     have a9:=zcA hf2;rw[a9];clear a9;have E:=y;have H:=K;have F:=N;have s:=A;obtain⟨t0,t1,t2,t3,t4⟩:=ce5 E;have n:=F.own J (λg hg e=>by have:=a5 g hg;have e:=e;omega)
     have r:wc.heap.size<=(Q.alloc (.cells #[b.name,b.own,b.pe,int i64 (-1),int i64 (-1)] 203)).heap.size:=(zk s _).size;have V:Hid (∀ W,(some ⟨Q.heap.size,0,none⟩:Option Addr)=some W->∀ j u,([int i64 b.name,.string b.own,int i64 b.pe,int i64 (-1),int i64 (-1)]:_)[j]?=some u->(Q.alloc (.cells #[int i64 b.name,.string b.own,int i64 b.pe,int i64 (-1),int i64 (-1)] 203)).cell? (W.add j)=some u):=by
      intro W e
      cases e
      exact Jo (Jb Q _)
     go_wp2_with (first|(at_builtin;refine zv _ (by rfl) _ _ 39 (by rfl) _ 203 j0 _ 5 48 underlying39 ji d6 d7 d8 rfl (by decide) _ i _ (by rfl) (n.alloc _) _ 1 1 [_,_,_,_,_] (by rfl) (λh=>(by cases h)) (by rfl) (by exact V) (by intro u hu;simp at hu;rcases hu with rfl|rfl|rfl|rfl|rfl <;> rfl) (by unfold maxLen;omega) (by omega) (by first|exact r|simpa using r) ?_;intro v' w3 a0 Z))
     go_roundw
     case rel =>
      refine⟨i+1,by omega,by go_num,?_,(zk s _).grown Z r (λj hj=>(n.lt j hj).1)⟩
      rw[zbd,b1.out];rw[a4.out];rw[O.out];exact a0
     case measure=>simp[intOf];omega
  ·obtain rfl:i=m:=by omega
   go_wp2;go_ret;refine⟨⟨_,rfl,?_⟩,i0⟩;rw[e1.out.1,zcX (S':=R) (λj hj=>by rw[HR.out];exact j4.out j hj)]
   exact zu a1 S.size
end
theorem growI_nil (k:Nat)(w:World)(d:0<k)(hk:k<=4194304) :
  Calls prog 287 #[.slice none 0 0,int i64 k] w λe w'=>(∃ v,e=.returned v/\w'.ownsRow w.heap.size 3 1 v 0 [])/\Below w.heap.size w w':=by
 obtain⟨g,h,b,i,c⟩:=info_parts Tryz.infoInt;have a:=Lib.run_append_nil_zeros w 27 3 27 3 g _ .i64 _ underlying27 underlying3 h b k d (by omega) (by omega) (by rw[c];omega)
 have d0:decide ((k:Int)<0)=false:=by simp
 have d1:decide (0<k)=true:=by simpa using d
 go_enter func287,ntmps287;go_wp2_with (first|(at_builtin;refine Lib.wpList_append_run _ rfl _ _ _ _ rfl _ _ rfl rfl _ _ a ?_))
 go_ret;have f:=grownCap_ge w k 0 3;refine⟨⟨_,rfl,rfl,.inr ⟨_,_,_,rfl,Jr _,Jb w _,Jq _,grownCap_le_maxLen w k 0 _ (by unfold maxLen;omega),?_,rfl⟩⟩,(zk (Ji _ w) _).drew⟩
 rw[Array.size_append,size_zeroCells,size_zeroCells]
 show k*1+_*1=_
 omega
def cumI (n r:Nat):Nat:=if r=0 then 0 else if r=1 then n else n+1
def partI (a:List Int)(x:Int)(r:Nat):List Int:=if r=0 then [] else if r=1 then a else a++[x]
theorem zmd (T O:Nat)(m:Option Addr)(n y:Nat)(c:List Int)(x:Int)(w:World)(I:c.length=n)(hn:n<=1048576)
  (q:w.heap[T]?=some (.cells #[(m,n,y),(some (O,0),1,1)] 27 (0,0))) (P:zT w m n (getI c)) (Q:w.cell? (O,0)=some (int i64 x)) (L:m=none->n=0/\y=0) :
  Calls prog 275 #[.slice (some ⟨T,0,none⟩) 2 2] w λe w'=>(∃ d c',e=.returned (.slice d (n+1) c')/\w'.ownsRow w.heap.size 3 1 (.slice d (n+1) c') (n+1) (zab (c++[x])))/\Below w.heap.size w w':=by
 obtain⟨R,S,C,D,E⟩:=info_parts Tryz.infoInt;have W:=hI I;have N:=Ja w _ Q;have X:Hid (zT w m c.length (getI c)):=by rw[Hid,I];exact P
 clear I P;have U:w.cell? _=some (m,n,y):=za q 0 _ rfl;have V:w.cell? _=some (.slice _ 1 1):=za q 1 _ rfl;have c0:cumI n 0=0:=rfl;have c1:cumI n 1=n:=rfl;have c2:cumI n 2=n+1:=rfl;go_enter func275,ntmps275;go_wp2;go_loopg [3,5,11] 2 (λg s _ i wr=>∃ r,r<=2/\g=2 - r/\i=int i64 r/\s=int i64 (cumI n r)/\wr=w)
 case atStart=>exact⟨0,by omega,rfl,rfl,rfl,rfl⟩
 case round =>
  obtain⟨r,hr,rfl,rfl,rfl,A⟩:=hrel;have B:=A.symm;subst B;clear A;have o:r=0∨r=1∨r=2:=by omega
  rcases o with rfl|rfl|rfl
  ·go_wp2
   go_roundg 1
   case measure=>omega
   case rel=>exact⟨1,by omega,rfl,by go_num,by rw[c1],rfl⟩
  ·have hd:decide ((n:Int)+1<0)=false:=by simp;omega
   go_wp2;go_roundg 0
   case measure=>omega
   case rel=>exact⟨2,by omega,rfl,by go_num,by rw[c2];go_num,rfl⟩
  ·go_wp2_with fail
   refine(growI_nil (n+1) _ (by omega) (by omega)).mono ?_
   rintro e w1 ⟨⟨v,rfl,M⟩,K⟩;clear U V;go_wp2;go_loopg [6,8,27] 2 (λg u _ i wr=>∃ r,r<=2/\g=2 - r/\i=int i64 r/\wr.ownsRow w.heap.size 3 1 u (cumI n r) (zab (partI c x r))/\Below w.heap.size w wr)
   case atStart=>exact⟨0,by omega,rfl,rfl,M,K⟩
   case round =>
    obtain⟨r,hr,rfl,rfl,t,a⟩:=hrel;obtain⟨F,J⟩:∃ x,x=wr:=⟨_,rfl⟩;subst J;have k:=a.size;have l:=zb q a;have U:F.cell? _=some (m,n,y):=za l 0 _ rfl;have V:F.cell? _=some (.slice _ 1 1):=za l 1 _ rfl;have o:r=0∨r=1∨r=2:=by omega
    rcases o with rfl|rfl|rfl
    ·have G:=hI (znf (X.below a))
     go_wp2_with (first|(at_builtin;refine zv _ rfl _ _ 27 rfl _ 3 R _ 1 8 underlying27 S C D E rfl (by decide) _ 0 [] (by rfl) t m n y _ rfl L (by rw[zeu,W.out,Nat.mul_one]) G (zhQ c) (by unfold maxLen;omega) (by omega) k ?_;intro Z w3 f p))
     go_roundg 1
     case measure=>omega
     case rel=>exact⟨1,by omega,rfl,by go_num,by
      rw[c1];rw[Nat.zero_add,List.nil_append] at f;exact f,a.grown p k (λj z=>(t.lt j z).1)⟩
    ·have G:Hid (∀ H,(some (O,0):Option Addr)=some H->∀ j u,(zab [x])[j]?=some u->F.cell? (H.add j)=some u):=by
      intro H e j u Y
      cases e
      obtain⟨z,rfl⟩:=zcD _ _ _ _ Y;obtain rfl:=by simpa using z
      exact(a.cell N).trans Q
     have b:F.ownsRow _ 3 1 u6 n (zab c):=t;clear t;go_wp2_with (first|(at_builtin;refine zv _ rfl _ _ 27 rfl _ 3 R _ 1 8 underlying27 S C D E rfl (by decide) _ n _ (by rfl) b _ 1 1 _ rfl (λh=>(by cases h)) (by rw[zeu];rfl) G (zhQ _) (by unfold maxLen;omega) (by omega) k ?_;intro Z w3 f p))
     go_roundg 0
     case measure=>omega
     case rel=>exact⟨2,by omega,rfl,by go_num,by
      rw[c2];have:zab (partI c x 2)=_:=zix _ _;rw[this];exact f,a.grown p k (λj z=>(b.lt j z).1)⟩
    ·rw[c2] at t
     have b:F.ownsRow _ 3 1 u6 _ (zab (c++[x])):=t;clear t;obtain⟨d,c',rfl,_⟩:=zp b;go_wp2;go_ret;exact⟨⟨d,c',rfl,b⟩,a⟩
def zic (a:ByteArray)(t:Int)(fr:ByteArray)(d:Int):Bool:=(fr.toList == a.toList) && decide (t<=d)
theorem zcC {a fr:ByteArray}{t d:Int}:zic a t fr d=true↔fr=a/\t<=d:=by
 unfold zic;rw[Bool.and_eq_true,zet,decide_eq_true_iff]
theorem zid (la:Option Addr)(n l:Nat)(b:ByteArray)(t x d a mo:Int)(fr tt:ByteArray)(lo i:Option Addr)(m o c1 c2:Nat)(w:World) :
  Calls prog 247 #[.agg #[(la,n,l),b,t],.agg #[x,fr,tt,d,a,(lo,m,c1),(i,o,c2),mo]] w λe w'=>e=.returned (.bool (zic b t fr d))/\Below w.heap.size w w':=by
 obtain⟨q,g⟩:∃ q,q=zic b t fr d:=⟨_,rfl⟩;rw[← g];have f:=hI g;clear g
 by_cases h1:fr=b
 ·have j:=zet.2 h1
  have c:=hI h1;clear h1
  by_cases h2:t<=d
  ·have k:decide (t<=d)=true:=by simpa using h2
   go_enter func247,ntmps247;go_wp2;go_ret;exact⟨by rw[f.out,zcC.2 ⟨c.out,h2⟩];rfl,zk (zk bZ _) _⟩
  ·have k:decide (t<=d)=false:=by simpa using h2
   go_enter func247,ntmps247;go_wp2;go_ret;exact⟨by rw[f.out,show zic b t fr d=false from Bool.eq_false_iff.2 (λh=>by have:=(zcC.1 h).2;omega)];rfl,zk (zk bZ _) _⟩
 ·have j:=zga.2 h1
  have c:=hI h1;clear h1;go_enter func247,ntmps247;go_wp2;go_ret;exact⟨by rw[f.out,Bool.eq_false_iff.2 (λh=>c.out (zcC.1 h).1)];rfl,zk (zk bZ _) _⟩
theorem with_any (la:Option Addr)(n k:Nat)(B:List Int)(P:ByteArray)(t x d a mo:Int)(fr tt:ByteArray)(lo K:Option Addr)(N O c1 c2:Nat)(w:World)(L:B.length=n)(hn:n<=1048576)(M:zT w la n (getI B))(G:la=none->n=0/\k=0) :
  Calls prog 248 #[.agg #[.slice la n k,.string P,int i64 t],.agg #[int i64 x,.string fr,.string tt,int i64 d,int i64 a,.slice lo N c1,.slice K O c2,int i64 mo]] w λe w'=>∃ ao c,e=.returned (.agg #[.slice ao (n+1) c,.string tt,int i64 a])/\w'.ownsRow w.heap.size 3 1 (.slice ao (n+1) c) (n+1) (zab (B++[x]))/\Below w.heap.size w w':=by
 have V:=hI L;clear L;go_enter func248,ntmps248;go_upto_region 1 with fail;have g:(((w.alloc _).alloc (.cells #[x,fr,tt,d,a,(lo,N,c1),(K,O,c2),mo] 140)).alloc (.cells #[True,False,()] 329)).heap[w.heap.size]?=some (.cells #[(la,n,k),P,t] 329 (0,0)):=zd (zd (Jb w _) _) _;have h:=nw3H1 g;have s:=nw3H2 g;have l:=nw3HB g;have j:=nw3HS g;generalize hW:((w.alloc _).alloc _).alloc _=W at g h s l j ⊢;clear hW;have D:=hI j;clear j;have r:Below _ W (((W.alloc (.cells #[x] 3)).alloc (.cells #[(la,n,k),(some (W.heap.size,0),1,1)] 27)).drew):=(zk (zk (Ji _ W) _) _).drew;have z:(((W.alloc (.cells #[x] 3)).alloc _).drew).heap[W.heap.size+1]?=some (.cells #[(la,n,k),(some (W.heap.size,0),1,1)] 27 (0,0)):=zK (by simpa using Jb (W.alloc _) _)
 have A:(((W.alloc _).alloc (.cells #[(la,n,k),(some (W.heap.size,0),1,1)] 27)).drew).heap[W.heap.size]?=some (.cells #[x] 3 (0,0)):=zK (zd (Jb W _) _);have J:=zmd _ _ la n k B x _ V hn z (M.below (ze l r)) (za A 0 _ rfl) G;have U:Hid _:=J;have f:Hid (∀ w',zx W w' (λb=>b=w.heap.size+1+1)->w'.cell? _=some (la,n,k)/\w'.cell? _=some (.int _ x)/\w'.cell? _=some (.string tt)/\w'.cell? _=some (.int _ a)) :=
  λw' v=>⟨za (v.blk g (by omega)) 0 _ rfl,za (v.blk h (by omega)) 0 _ rfl,za (v.blk h (by omega)) 2 _ rfl,za (v.blk h (by omega)) 4 _ rfl⟩
 have Y:Hid (zx W _ (λb=>b=w.heap.size+1+1)):=zx.of_below bZ.drew
 have Z:Hid (∀ o,zx W (W.alloc o) (λb=>b=w.heap.size+1+1)):=λo=>zx.of_below (zk bZ _)
 have E:Hid (∀ o,zx W (W.alloc o).drew (λb=>b=w.heap.size+1+1)):=λo=>zx.of_below (zk bZ _).drew
 have F:Hid (∀ o p,zx W ((W.alloc o).alloc p) (λb=>b=w.heap.size+1+1)):=λo p=>zx.of_below (zk (zk bZ _) _)
 have y:Hid (∀ o p,zx W ((W.alloc o).alloc p).drew (λb=>b=w.heap.size+1+1)):=λo p=>zx.of_below (zk (zk bZ _) _).drew
 have KS:Hid (∀ w',zx W w' (λb=>b=_+1)->∀ u1 u2 u3,zx W (((w'.setCell _ u1).setCell _ u2).setCell _ u3) _):=λw' v u1 u2 u3=>((v.set (a:=⟨_,0,none⟩) rfl _).set (a:=⟨_,1,none⟩) rfl _).set (a:=(w.heap.size+1+1,2)) rfl _
 have Q:=za g 0 _ rfl;have R:=za h 0 _ rfl;have S:=za h 2 _ rfl;have T:=za h 4 _ rfl;have i:=hI r;have X:=hI s;have C:=hI l;clear J z A r g h s l M;go_region_held3 (λw'=>w'.cell? (w.heap.size,0)=some (la,n,k)/\w'.cell? (w.heap.size+1,0)=some (int i64 x)/\w'.cell? (w.heap.size+1,2)=some (.string tt)/\w'.cell? (w.heap.size+1,4)=some (int i64 a))
  (first|with_reducible exact⟨Q,R,S,T⟩|with_reducible exact f.out _ Y.out|with_reducible exact f.out _ (Z.out _)|with_reducible exact f.out _ (E.out _)|with_reducible exact f.out _ (F.out _ _)|with_reducible exact f.out _ (y.out _ _)|with_reducible exact f.out _ (zx.of_below (ze i.out m))|with_reducible exact f.out _ (KS.out _ (zx.of_below (ze i.out m)) _ _ _))
  (first|(go_at_call 275;refine Jm U ?_;rintro e w3 ⟨⟨H,I,rfl,ho⟩,m⟩;have u:=zb X (ze i m);have o0:=za u 0 _ rfl;have o1:=za u 1 _ rfl;have o2:=za u 2 _ rfl;have f0:=zg u 0;have f1:=zg u 1;have f2:=zg u 2))
 go_wp2;clear Q R S T o0 o1 o2 f0 f1 f2;have q:w.heap.size+1+1<(((W.alloc (.cells #[x] 3)).alloc (.cells #[(la,n,k),(some (W.heap.size,0),1,1)] 27)).drew).heap.size:=by
  have h1:=i.size;have h2:=D.out
  omega
 have rF:=zm (zm (zm u 0 (H,n+1,I)) 1 tt) 2 a;obtain⟨y0,y1,y2⟩:=ce3 rF;refine Jj (by simp[results,results248,go_sem,y0,y1,y2]) rfl ⟨H,I,rfl,?_,?_⟩
 ·exact zu (ZW (ZW (ZW ho (by show _+1<_;exact q) _) (by show _+1<_;exact q) _) (by show _+1<_;exact q) _) (by omega)
 ·have hb:=ze C (ze i m)
  exact((hb.setCell (by show w.heap.size<=_+1;omega) _).setCell (by show w.heap.size<=_+1;omega) _).setCell (by show w.heap.size<=_+1;omega) _
/-- findSailing: where the first sailing with the Id stands, and whether there is one. -/
theorem zaF (l:Option Addr)(N c:Nat)(S:Nat->Zj)(x:Int)(w:World)(hN:N<=1048576)(y:qB w l N S) :
  Calls prog 198 #[.slice l N c,int i64 x] w λe w'=>((zW S x N<N/\e=.returned (.tuple #[int i64 (zW S x N),.bool true]))∨(zW S x N=N/\e=.returned (.tuple #[int i64 0,.bool false])))/\Below w.heap.size w w':=by
 go_enter func198,ntmps198;go_wp2;go_loopw [6,7,10] (λ_ _ i wr=>∃ k,k<=N/\i=int i64 k/\(∀ j,j<k->(S j).id≠x)/\Below w.heap.size w wr) (λ_ _ i _=>N - (intOf i).toNat)
 case atStart=>exact⟨0,Jq _,rfl,λj u=>by omega,bZ⟩
 case round =>
  obtain⟨k,hk,rfl,d,a⟩:=hrel;have h:=hI d;clear d
  by_cases hlt:k<N
  ·obtain⟨b,off,la,lc,ca,cc,rfl,m,h1,h2,h3,n,o,q,r,_,_,_,_⟩:=y k hlt
   have f:=Ja w _ h1;have c0:=(a.cell (p:=⟨b,off+_,_⟩) f).trans m;have c1:=(a.cell f).trans h1;have c2:=(a.cell (p:=⟨b,_+2,_⟩) f).trans h2;have c3:=(a.cell (p:=⟨b,_+3,_⟩) f).trans h3;have c4:=(a.cell (p:=⟨b,_+4,_⟩) f).trans n;have c5:=(a.cell (p:=⟨b,_+5,_⟩) f).trans o;have c6:=(a.cell (p:=⟨b,_+6,_⟩) f).trans q;have c7:=(a.cell (p:=⟨b,_+7,_⟩) f).trans r;clear m h1 h2 h3 n o q r
   by_cases he:(S k).id=x
   ·have t:((S k).id == x)=true:=by simpa using he
    have g:=hI (zkg hlt he h);clear he;go_wp2;exact Jj (v:=.tuple #[int i64 k,.bool true]) (by simp[results,results198,go_sem]) rfl ⟨.inl ⟨by rw[g.out];exact hlt,by rw[g.out]⟩,zk a _⟩
   ·have t:((S k).id == x)=false:=by simpa using he
    have s:=hI he;clear he;go_wp2;go_roundw
    case rel=>exact⟨k+1,by omega,by go_num,λj u=>by
     by_cases e:j=k
     ·subst e;exact s
     ·exact h j (by omega),zk a _⟩
    case measure=>simp[intOf];omega
  ·obtain rfl:k=N:=by omega
   have g:=hI (zgD h);go_wp2;exact Jj (by simp[results,results198,go_sem]) rfl ⟨.inr ⟨g,rfl⟩,a⟩
structure zfS (w u:World)(a b c:Value)(os:Array Value):Prop where
 bo:u.heap[w.heap.size]?=some (.cells #[a,b,c] 38 (0,0))
 bp:u.heap[w.heap.size+1]?=some (.cells os 47 (0,0))
 br:u.heap[w.heap.size+1+1]?=some (.cells #[True,True,True] 38 (0,0))
 ba:u.heap[w.heap.size+1+1+1]?=some (.cells #[(),(),(),True] 41 (0,0))
theorem zfS.below {w u e:World}{b c d:Value}{os:Array Value}(h:zfS w u b c d os)(a:Below u.heap.size u e):zfS w e b c d os:=⟨zb h.bo a,zb h.bp a,zb h.br a,zb h.ba a⟩
theorem zfS.start (w:World)(a b c:Value)(os:Array Value):zfS w ((((w.alloc (.cells #[a,b,c] 38)).alloc (.cells os 47)).alloc (.cells #[True,True,True] 38)).alloc (.cells #[(),(),(),True] 41)) a b c os:=by
 obtain⟨h1,h2,h3,d,_⟩:=zcT w (.cells #[a,b,c] 38) (.cells os 47) (.cells #[True,True,True] 38) (.cells #[(),(),(),True] 41);exact⟨h1,h2,h3,d⟩
def qt (u:World)(g:Nat)(v0 v1 v2:Value):World:=((u.setCell (g,0) v0).setCell (g,1) v1).setCell (g,2) v2
def ZK (u:World)(g:Nat)(v0 v1 v2 v3:Value):World:=(((u.setCell (g,0) v0).setCell (g,1) v1).setCell (g,2) v2).setCell (g,3) v3
theorem QG (u:World)(g:Nat)(v0 v1 v2:Value):zx u (qt u g v0 v1 v2) (λb=>b=g):=(((zx.refl u (λb=>b=g)).set (a:=⟨g,0,none⟩) rfl v0).set (a:=⟨g,1,none⟩) rfl v1).set (a:=⟨g,2,none⟩) rfl v2
theorem QH (u:World)(g:Nat)(v0 v1 v2 v3:Value):zx u (ZK u g v0 v1 v2 v3) (λb=>b=g):=zaU u g v0 v1 v2 v3
theorem zfS.fin {w u:World}{i j k:Value}{os:Array Value}(h:zfS w u i j k os)(a c d v0 v1 v2 v3:Value) :
  (ZK (qt u (w.heap.size+1+1) a c d) (w.heap.size+1+1+1) v0 v1 v2 v3).heap[w.heap.size+1+1]?=some (.cells #[a,c,d] 38 (0,0))/\(ZK (qt u (w.heap.size+1+1) a c d) (w.heap.size+1+1+1) v0 v1 v2 v3).heap[w.heap.size+1+1+1]?=some (.cells #[v0,v1,v2,v3] 41 (0,0)) /\
   (qt u (w.heap.size+1+1) a c d).heap[w.heap.size]?=some (.cells #[i,j,k] 38 (0,0))/\(qt u (w.heap.size+1+1) a c d).heap[w.heap.size+1]?=some (.cells os 47 (0,0))/\(qt u (w.heap.size+1+1) a c d).heap[w.heap.size+1+1+1]?=some (.cells #[(),(),(),True] 41 (0,0)) /\
   (ZK (qt u (w.heap.size+1+1) a c d) (w.heap.size+1+1+1) v0 v1 v2 v3).heap[w.heap.size]?=some (.cells #[i,j,k] 38 (0,0))/\(ZK (qt u (w.heap.size+1+1) a c d) (w.heap.size+1+1+1) v0 v1 v2 v3).heap[w.heap.size+1]?=some (.cells os 47 (0,0))/\zx u (ZK (qt u (w.heap.size+1+1) a c d) (w.heap.size+1+1+1) v0 v1 v2 v3) (λb=>b=w.heap.size+1+1∨b=w.heap.size+1+1+1):=by
 have f:=QG u (w.heap.size+1+1) a c d;have g:=QH (qt u (w.heap.size+1+1) a c d) (w.heap.size+1+1+1) v0 v1 v2 v3;have l:=f.blk h.ba (show ¬ w.heap.size+1+1+1=w.heap.size+1+1 by omega)
 have m:=f.blk h.bo (show ¬ w.heap.size=w.heap.size+1+1 by omega)
 have c1:=f.blk h.bp (show ¬ w.heap.size+1=w.heap.size+1+1 by omega)
 exact⟨g.blk (zcq h.br a c d) (show ¬ w.heap.size+1+1=w.heap.size+1+1+1 by omega),zcJ l v0 v1 v2 v3,m,c1,l,g.blk m (show ¬ w.heap.size=w.heap.size+1+1+1 by omega),g.blk c1 (show ¬ w.heap.size+1=w.heap.size+1+1+1 by omega),(f.mono (λb e=>.inl e)).trans (g.mono (λb e=>.inr e))⟩
theorem zfS.low {w u:World}(f:Below w.heap.size w u)(c d e v0 v1 v2 v3:Value):Below w.heap.size w (ZK (qt u (w.heap.size+1+1) c d e) (w.heap.size+1+1+1) v0 v1 v2 v3):=by
 have b:w.heap.size<=w.heap.size+1+1:=by omega
 have a:w.heap.size<=w.heap.size+1+1+1:=by omega
 exact((((((f.setCell b c).setCell b d).setCell b e).setCell a v0).setCell a v1).setCell a v2).setCell a v3
theorem settle_1 (x:Off)(k l m:Option Addr)(c1 c2 c3:Nat)(t:Int)(y:OpD)(f:Option Addr)(g:Nat)(w:World)(H:y.kind=1)(J:Zq w)(L:Zu w)(I:QU ⟨y.pe,y.len,y.hei,y.cl,y.all,y.be⟩ y.lgn) :
  Calls prog 111 #[.agg #[(k,x.san,c1),(l,x.ldn,c2),(m,x.bkn,c3)],t,.agg (y,f,g)] w λe w'=>e=.returned (.tuple #[.agg #[(k,x.san,c1),(l,x.ldn,c2),(m,x.bkn,c3)],.agg #[(),(),(zE ⟨y.pe,y.len,y.hei,y.cl,y.all,y.be⟩ y.lgn),True]])/\Below w.heap.size w w':=by
 have p:=λV h1 h2=>zcG y f g V h1 h2 I
 rw[H] at p ⊢;have s:=hI p;have a:=hI (zfS.start w (k,x.san,c1) (l,x.ldn,c2) (m,x.bkn,c3) #[int i64 1,y.own,y.name,(f,y.lgn,g),y.pe,y.len,y.hei,y.cl,y.all,y.be,y.unt,y.now]);have n:Below _ w ((((w.alloc (.cells #[(k,x.san,c1),(l,x.ldn,c2),(m,x.bkn,c3)] 38)).alloc (.cells #[int i64 1,y.own,y.name,(f,y.lgn,g),y.pe,y.len,y.hei,y.cl,y.all,y.be,y.unt,y.now] 47)).alloc (.cells #[True,True,True] 38)).alloc (.cells #[(),(),(),True] 41)):=zk (zk (zk (zk bZ _) _) _) _;clear H p I;go_enter func111,ntmps111;go_upto_region 1 with fail;generalize (((w.alloc _).alloc _).alloc _).alloc _=U at a n ⊢;have M:=za a.bp 0 _ rfl;go_upto_region 3 with fail;clear M;replace a:=hI (a.below (Ji _ U).drew);have d:=n.drew;clear n;refine qg 6 6 (λu=>u.cell? _=some (.slice k _ c1)/\u.cell? _=some (.slice l _ c2)/\u.cell? _=some (.slice m _ c3)/\u.cell? _=some (.int _ 1)/\u.cell? _=some (.string _)/\u.cell? _=some (.int _ _)/\u.cell? _=some (.slice f _ g)/\u.cell? _=some (.int _ _)/\u.cell? _=some (.int _ _)/\u.cell? _=some (.int _ _)/\u.cell? _=some (.int _ _)/\u.cell? _=some (.bool _)/\u.cell? _=some (.int _ _)/\u.cell? _=some (.int _ _)/\u.cell? _=some (.int _ _)) rfl (by kernel_rfl) (⟨za a.bo 0 _ rfl,za a.bo 1 _ rfl,za a.bo 2 _ rfl,za a.bp 0 _ rfl,za a.bp 1 _ rfl,za a.bp 2 _ rfl,za a.bp 3 _ rfl,za a.bp 4 _ rfl,za a.bp 5 _ rfl,za a.bp 6 _ rfl,za a.bp 7 _ rfl,za a.bp 8 _ rfl,za a.bp 9 _ rfl,za a.bp 10 _ rfl,za a.bp 11 _ rfl⟩) (λr=>?_)
 simp only[List.replicate_succ,List.replicate_zero];generalize U.drew=u0 at a d r ⊢
 iterate 2 (refine tFN 0 (v:=?_) rfl (by kernel_rfl) (λ_ _ _ h=>h) rfl (by assumption) ?_ ?_;rotate_left;(focus(intro w' h;(try dsimp only at h);go_simp;try with_reducible rfl));simp only[Act.put,sB,sZ,sS])
 refine zj (rs:=[2]) (by kernel_rfl) (by simp) ?_
 refine zc.consL rfl (λK j=>?_) zc.nil
 go_simp;go_at_call 202;refine Jm (s _ (J.below d) (L.below d)) ?_;rintro e u1 ⟨rfl,o⟩;dsimp only;replace a:=hI (a.below o);replace d:=ze d o;refine j _ _ (⟨za a.bo 0 _ rfl,za a.bo 1 _ rfl,za a.bo 2 _ rfl,za a.bp 0 _ rfl,za a.bp 1 _ rfl,za a.bp 2 _ rfl,za a.bp 3 _ rfl,za a.bp 4 _ rfl,za a.bp 5 _ rfl,za a.bp 6 _ rfl,za a.bp 7 _ rfl,za a.bp 8 _ rfl,za a.bp 9 _ rfl,za a.bp 10 _ rfl,za a.bp 11 _ rfl⟩) (λr=>?_)
 clear j K o;simp only[sZ,sS]
 (refine tFN 3 (v:=?_) rfl (by kernel_rfl) (λ_ _ _ h=>h) rfl (by assumption) ?_ ?_;rotate_left;(focus(intro w' h;(try dsimp only at h);go_simp;try with_reducible rfl));simp only[Act.put,sB,sZ,sS])
 have i:=hI (a.fin (k,x.san,c1) (l,x.ldn,c2) (m,x.bkn,c3) () () (zE ⟨y.pe,y.len,y.hei,y.cl,y.all,y.be⟩ y.lgn) True);obtain⟨C,D,E⟩:=ce3 a.br;obtain⟨z,A,B⟩:=fe3 a.br;refine zj (rs:=[4]) (by kernel_rfl) (by simp) ?_
 refine zc.consL rfl (λK j=>?_) zc.nil
 go_simp;have b:=i.2.2;unfold qt at b;refine j _ _ (⟨za b.1 0 _ rfl,za b.1 1 _ rfl,za b.1 2 _ rfl,za b.2.1 0 _ rfl,za b.2.1 1 _ rfl,za b.2.1 2 _ rfl,za b.2.1 3 _ rfl,za b.2.1 4 _ rfl,za b.2.1 5 _ rfl,za b.2.1 6 _ rfl,za b.2.1 7 _ rfl,za b.2.1 8 _ rfl,za b.2.1 9 _ rfl,za b.2.1 10 _ rfl,za b.2.1 11 _ rfl⟩) (λr=>?_)
 clear j K C z D A E B;simp only[sZ,sS];obtain⟨C,D,E,N⟩:=ce4 b.2.2.1;obtain⟨z,A,B,f3⟩:=fe4 b.2.2.1;refine zj (rs:=[5]) (by kernel_rfl) (by simp) ?_
 refine zc.consL rfl (λK j=>?_) zc.nil
 go_simp;have c:=i.2.2.2.2.2;unfold ZK qt at c;refine j _ _ (⟨za c.1 0 _ rfl,za c.1 1 _ rfl,za c.1 2 _ rfl,za c.2.1 0 _ rfl,za c.2.1 1 _ rfl,za c.2.1 2 _ rfl,za c.2.1 3 _ rfl,za c.2.1 4 _ rfl,za c.2.1 5 _ rfl,za c.2.1 6 _ rfl,za c.2.1 7 _ rfl,za c.2.1 8 _ rfl,za c.2.1 9 _ rfl,za c.2.1 10 _ rfl,za c.2.1 11 _ rfl⟩) (λr=>?_)
 clear j K C z D A E B N f3 b c;simp only[sZ,sS];refine zX (by kernel_rfl) ?_ _
 go_wp2;have F:=i.1;have G:=i.2.1;unfold ZK qt at F G;obtain⟨S,T,W⟩:=ce3 F;obtain⟨O,P,Q,R⟩:=ce4 G;have q:=zfS.low d (k,x.san,c1) (l,x.ldn,c2) (m,x.bkn,c3) () () (zE ⟨y.pe,y.len,y.hei,y.cl,y.all,y.be⟩ y.lgn) True;unfold ZK qt at q;exact Jj (by simp[results,results111,go_sem,S,T,W,O,P,Q,R]) rfl ⟨rfl,q⟩
theorem settle_9 (x:Off)(j m n:Option Addr)(c1 c2 c3 k:Nat)(V:Int)(y:OpD)(E:Option Addr)(o:Nat)(w:World)(H:y.kind=9)(hs:Off.Short x 1048576)(O:qB w j x.san x.sa)(I:ZG w m x.ldn x.ld)(F:qO w n x.bkn x.bk)(a0:x.bkn<=30)(L:x.ldn=x.san)
  (a4:0<y.lgn) (J:zT w E y.lgn y.lg) (hk:zW x.sa (y.lg 0) x.san=k) (a5:k<x.san) (M:qm (x.sa k) (x.ld k)) :
  Calls prog 111 #[.agg #[(j,x.san,c1),(m,x.ldn,c2),(n,x.bkn,c3)],V,.agg (y,E,o)] w λe w'=>(∃ v,e=.returned (.tuple #[.agg #[(j,x.san,c1),(m,x.ldn,c2),(n,x.bkn,c3)],.agg #[(),(),(),v]])/\w'.ownsRow w.heap.size 203 5 v (Qn (x.ld k) x.bk (x.sa k).id x.bkn).length (qW (zeM (Qn (x.ld k) x.bk (x.sa k).id x.bkn)) (Qn (x.ld k) x.bk (x.sa k).id x.bkn).length))/\Below w.heap.size w w':=by
 rw[H];obtain⟨lb,lo,rfl,G⟩:=J 0 a4;have T:=hI hs;have D:=hI O;have R:=hI I;have Q:=hI F;have HM:=hI L;have HK:=hI hk;have S:=hI M;have t:=hI G;have n8:=hs.1.1;have b:=hI (zfS.start w (j,x.san,c1) (m,x.ldn,c2) (n,x.bkn,c3) #[int i64 9,y.own,y.name,(some (lb,lo),y.lgn,o),y.pe,y.len,y.hei,y.cl,y.all,y.be,y.unt,y.now]);have s:Below _ w ((((w.alloc (.cells #[(j,x.san,c1),(m,x.ldn,c2),(n,x.bkn,c3)] 38)).alloc (.cells #[int i64 9,y.own,y.name,(some (lb,lo),y.lgn,o),y.pe,y.len,y.hei,y.cl,y.all,y.be,y.unt,y.now] 47)).alloc (.cells #[True,True,True] 38)).alloc (.cells #[(),(),(),True] 41)):=zk (zk (zk (zk bZ _) _) _) _;clear H hs O I F L J hk M G;go_enter func111,ntmps111;go_upto_region 1 with fail;generalize (((w.alloc _).alloc _).alloc _).alloc _=U at b s ⊢;have o0:=za b.bp 0 _ rfl;go_upto_region 10 with fail;clear o0;replace b:=hI (b.below (Ji _ U).drew);have a:=s.drew;clear s;have i0:(0:Int)<(y.lgn:Int):=by omega
 have A:Hid (∀ z,Below _ w z->_):=λz hz=>(hz.cell (Ja w _ t)).trans t
 refine qg 12 12 (λu=>u.cell? _=some (.slice j _ c1)/\u.cell? _=some (.slice _ _ o)/\u.cell? _=_) rfl (by kernel_rfl) ⟨za b.bo 0 _ rfl,za b.bp 3 _ rfl,A _ a⟩ (λr=>?_)
 simp only[List.replicate_succ,List.replicate_zero];generalize U.drew=u0 at b a r ⊢
 iterate 6 (refine tFN 0 (v:=?_) rfl (by kernel_rfl) (λ_ _ _ h=>h) rfl (by assumption) ?_ ?_;rotate_left;(focus(intro w' h;(try dsimp only at h);go_simp;try with_reducible rfl));simp only[Act.put,sB,sZ,sS])
 refine zj (rs:=[6]) (by kernel_rfl) (by simp) ?_
 refine zc.consL rfl (λK l=>?_) zc.nil
 go_simp;go_at_call 198;refine Jm (zaF j _ c1 _ _ u0 n8 (D.below a)) ?_;rintro e u1 ⟨p,d⟩;replace p:e=.returned (.tuple #[(k:Int),.bool true]):=by
  rw[HK.out] at p
  rcases p with⟨_,q⟩|⟨q,_⟩
  ·exact q
  ·omega
 subst p;dsimp only;replace b:=hI (b.below d);replace a:=ze a d;refine l _ _ ⟨za b.bo 0 _ rfl,za b.bp 3 _ rfl,A _ a⟩ (λr=>?_)
 clear l K d;simp only[sZ,sS]
 iterate 5 (refine tFN 7 (v:=?_) rfl (by kernel_rfl) (λ_ _ _ h=>h) rfl (by assumption) ?_ ?_;rotate_left;(focus(intro w' h;(try dsimp only at h);go_simp;try with_reducible rfl));simp only[Act.put,sB,sZ,sS])
 refine zX (by kernel_rfl) ?_ _
 go_upto_region 11 with fail;replace b:=hI (b.below (Ji _ u1).drew);replace a:=a.drew;refine qg 7 7 (λu=>u.cell? _=some (.slice j _ c1)/\u.cell? _=some (.slice m _ c2)/\u.cell? _=some (.slice n _ c3)) rfl (by kernel_rfl) ⟨za b.bo 0 _ rfl,za b.bo 1 _ rfl,za b.bo 2 _ rfl⟩ (λr=>?_)
 simp only[List.replicate_succ,List.replicate_zero];generalize u1.drew=u2 at b a r ⊢
 iterate 3 (refine tFN 0 (v:=?_) rfl (by kernel_rfl) (λ_ _ _ h=>h) rfl (by assumption) ?_ ?_;rotate_left;(focus(intro w' h;(try dsimp only at h);go_simp;try with_reducible rfl));simp only[Act.put,sB,sZ,sS])
 refine zj (rs:=[3]) (by kernel_rfl) (by simp) ?_
 refine zc.consL rfl (λK l=>?_) zc.nil
 go_simp;go_at_call 204;refine Jm (znL x j m n c1 c2 c3 k u2 T (D.below a) (R.below a) (Q.below a) a0 a5 HM S) ?_;rintro e u3 ⟨⟨v,rfl,ho⟩,d⟩;obtain⟨va,vc,rfl,_⟩:=zp ho;dsimp only;have P:Hid _:=zu ho a.size;replace b:=hI (b.below d);replace a:=ze a d;refine l _ _ ⟨za b.bo 0 _ rfl,za b.bo 1 _ rfl,za b.bo 2 _ rfl⟩ (λr=>?_)
 clear l K d ho;simp only[sZ,sS];obtain⟨N,Z⟩:∃ N,N=(Qn (x.ld k) x.bk (x.sa k).id x.bkn).length:=⟨_,rfl⟩;have HN:=hI Z;rw[← Z] at P ⊢;clear Z
 (refine tFN 4 (v:=?_) rfl (by kernel_rfl) (λ_ _ _ h=>h) rfl (by assumption) ?_ ?_;rotate_left;(focus(intro w' h;(try dsimp only at h);go_simp;try with_reducible rfl));simp only[Act.put,sB,sZ,sS])
 have f:=hI (b.fin (j,x.san,c1) (m,x.ldn,c2) (n,x.bkn,c3) () () () (va,N,vc));obtain⟨r0,r1,r2⟩:=ce3 b.br;obtain⟨W,X,Y⟩:=fe3 b.br;refine zj (rs:=[5]) (by kernel_rfl) (by simp) ?_
 refine zc.consL rfl (λK l=>?_) zc.nil
 go_simp;have c:=f.2.2;unfold qt at c;refine l _ _ (⟨za c.1 0 _ rfl,za c.1 1 _ rfl,za c.1 2 _ rfl⟩) (λr=>?_)
 clear l K r0 W r1 X r2 Y;simp only[sZ,sS];obtain⟨r0,r1,r2,r3⟩:=ce4 c.2.2.1;obtain⟨W,X,Y,f3⟩:=fe4 c.2.2.1;refine zj (rs:=[6]) (by kernel_rfl) (by simp) ?_
 refine zc.consL rfl (λK l=>?_) zc.nil
 go_simp;have i:=f.2.2.2.2.2;unfold ZK qt at i;refine l _ _ (⟨za i.1 0 _ rfl,za i.1 1 _ rfl,za i.1 2 _ rfl⟩) (λr=>?_)
 clear l K r0 W r1 X r2 Y r3 f3 c i;simp only[sZ,sS];refine zX (by kernel_rfl) ?_ _
 go_wp2;have Z3:=f.1;have Z4:=f.2.1;unfold ZK qt at Z3 Z4;obtain⟨z0,z1,z2⟩:=ce3 Z3;obtain⟨t0,t1,t2,t3⟩:=ce4 Z4;have B:=zfS.low a (j,x.san,c1) (m,x.ldn,c2) (n,x.bkn,c3) () () () (va,N,vc);have C:=f.2.2.2.2.2.2.2.own P (λg h1 h2=>h2.elim (λe=>zQ P b.br (by decide) g h1 e) (λe=>zQ P b.ba (by decide) g h1 e))
 unfold ZK qt at B C;exact Jj (v:=.tuple #[_,.agg #[_,_,_,(va,N,vc)]]) (by simp[results,results111,go_sem,z0,z1,z2,t0,t1,t2,t3]) rfl ⟨⟨_,rfl,by rw[← HN.out];exact C⟩,B⟩
theorem zr {w w':World}(h:w.grownBy w' none):Below w.heap.size w w':=bZ.grown h (Jr _) (by simp)
end Go.Proofs.YtmdnjgihooflfaaGreatDoor

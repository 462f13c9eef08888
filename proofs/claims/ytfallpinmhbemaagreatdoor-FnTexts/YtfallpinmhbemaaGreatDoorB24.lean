/-
  OWN TEXT: KitMRow, PlainRows, InfoMRow, SpecHas, SpecRows.
-/
import Derived.Test.YtfallpinmhbemaaGreatDoorRows
import Derived.Deep.RegionHeld3
import Derived.Test.YtfallpinmhbemaaGreatDoorB19
namespace Go.Proofs.YtfallpinmhbemaaGreatDoor
open Go.RowKit
open Go.Value (int)
open Go.IntKind (i64)
set_option maxHeartbeats 64000000
set_option maxRecDepth 100000
structure zer where
 name:Int
 own:ByteArray
 pe:Int
 ln:Int
 cab:Int
def zer.zero:zer:=⟨0,⟨#[]⟩,0,0,0⟩
instance:Inhabited zer:=⟨zer.zero⟩
def QH (S:Nat->zer)(j:Nat):Value :=
 if j % 5=0 then int i64 (S (j / 5)).name else if j % 5=1 then .string (S (j / 5)).own else if j % 5=2 then int i64 (S (j / 5)).pe else if j % 5=3 then int i64 (S (j / 5)).ln else int i64 (S (j / 5)).cab
theorem rowCell_0 (S:Nat->zer)(k:Nat):QH S (k*5)=int i64 (S k).name:=by
 unfold QH;rw[if_pos (by omega),show k*5 / 5=k by omega]
theorem rowCell_1 (S:Nat->zer)(k:Nat):QH S (k*5+1)=.string (S k).own:=by
 unfold QH;rw[if_neg (by omega),if_pos (by omega),show(k*5+1) / 5=k by omega]
theorem rowCell_2 (S:Nat->zer)(k:Nat):QH S (k*5+2)=int i64 (S k).pe:=by
 unfold QH;rw[if_neg (by omega),if_neg (by omega),if_pos (by omega),show(k*5+2) / 5=k by omega]
theorem rowCell_3 (S:Nat->zer)(k:Nat):QH S (k*5+3)=int i64 (S k).ln:=by
 unfold QH;rw[if_neg (by omega),if_neg (by omega),if_neg (by omega),if_pos (by omega),show(k*5+3) / 5=k by omega]
theorem rowCell_4 (S:Nat->zer)(k:Nat):QH S (k*5+4)=int i64 (S k).cab:=by
 unfold QH;rw[if_neg (by omega),if_neg (by omega),if_neg (by omega),if_neg (by omega),show(k*5+4) / 5=k by omega]
def ZW (S:Nat->zer)(n:Nat):List Value:=(List.range (n*5)).map (QH S)
theorem zgf (S:Nat->zer)(k:Nat):ZW S (k+1)=ZW S k++[int i64 (S k).name,.string (S k).own,int i64 (S k).pe,int i64 (S k).ln,int i64 (S k).cab]:=by
 unfold ZW;rw[show(k+1)*5=k*5+1+1+1+1+1 by omega,List.range_succ,List.range_succ,List.range_succ,List.range_succ,List.range_succ]
 simp only[List.map_append,List.map_cons,List.map_nil,List.append_assoc,List.cons_append,List.nil_append,rowCell_0,rowCell_1,rowCell_2,rowCell_3,rowCell_4]
theorem zeY {S a:Nat->zer}{n:Nat}(h:∀ i,i<n->S i=a i):ZW S n=ZW a n:=by
 unfold ZW;refine List.map_congr_left (fun j b=>?_)
 have c:j<n*5:=by simpa using b
 unfold QH;rw[h (j / 5) (by omega)]
section
open Go.RowKit Classical
def zar (S:Nat->ZX)(q:Int):Nat->Int
 | 0=>-1
 | n+1=>if (S n).who=q then (S n).ln else zar S q n
def QI (S:Nat->ZF)(q:Int):Nat->Int
 | 0=>-1
 | n+1=>if (S n).who=q then (S n).cab else QI S q n
def rowOf (l:qT)(b:ZK):zer:=⟨b.name,b.own,b.pe,zar l.st b.who l.stn,QI l.ro b.who l.ron⟩
def OnZ (b:ZK)(z:Int):Prop:=zee b/\HasLeg b z
noncomputable def QJ (l:qT)(S:Nat->ZK)(z:Int):Nat->List zer
 | 0=>[]
 | n+1=>if OnZ (S n) z then QJ l S z n++[rowOf l (S n)] else QJ l S z n
theorem zdp {l:qT}{S:Nat->ZK}{z:Int}{n:Nat}(h:OnZ (S n) z):QJ l S z (n+1)=QJ l S z n++[rowOf l (S n)]:=by rw[QJ,if_pos h]
theorem zbR {l:qT}{S:Nat->ZK}{z:Int}{n:Nat}(h:¬ OnZ (S n) z):QJ l S z (n+1)=QJ l S z n:=by rw[QJ,if_neg h]
theorem rowsL_le (l:qT)(S:Nat->ZK)(z:Int)(n:Nat):(QJ l S z n).length<=n:=by
 induction n with
 | zero=>exact Nat.le_refl _
 | succ n ih =>
  by_cases h:OnZ (S n) z
  ·rw[zdp h,List.length_append];simp;omega
  ·rw[zbR h];omega
def zii (l:List zer)(j:Nat):zer:=l.getD j zer.zero
theorem zgg (l:List zer)(r:zer):ZW (zii (l++[r])) (l.length+1)=ZW (zii l) l.length++[int i64 r.name,.string r.own,int i64 r.pe,int i64 r.ln,int i64 r.cab]:=by
 rw[zgf];have a:zii (l++[r]) l.length=r:=by simp[zii]
 have b:ZW (zii (l++[r])) l.length=ZW (zii l) l.length:=zeY (fun i c=>by unfold zii;rw[List.getD_eq_getElem?_getD,List.getD_eq_getElem?_getD,List.getElem?_append_left c])
 rw[a,b]
end
theorem Tryz.infoRow:(Tryz.prog.info? 212).map (fun i=>(i.zero,i.size,i.bytes))=some (some (.agg #[int i64 0,.string ⟨#[]⟩,int i64 0,int i64 0,int i64 0]),5,48):=by kernel_rfl
theorem l1Has_no (c:Option Addr)(n cap:Nat)(f:Nat->Int)(x:Int)(w:World)(hn:n<=1048576)(g:IntsAt w c n f)(a:∀ j,j<n->f j≠x) :
  Calls Tryz.prog 117 #[.slice c n cap,int i64 x] w fun e w'=>e=.returned (.bool false)/\w'=w:=by
 go_enter Tryz.func117,Tryz.ntmps117;go_wp2;go_loop [9] (fun i=>∃ k:Nat,k<=n/\i=int i64 k) (fun i=>n - (intOf i).toNat)
 case atStart=>exact⟨0,Nat.zero_le _,rfl⟩
 case round =>
  obtain⟨k,hk,rfl⟩:=hrel
  by_cases hlt:k<n
  ·obtain⟨b,off,rfl,hc⟩:=g k hlt
   have d:(f k == x)=false:=by simpa using a k hlt
   go_wp2;go_round
   case rel=>exact⟨k+1,by omega,by go_num⟩
   case measure=>simp[intOf];omega
  ·go_wp2
   go_ret;exact⟨rfl,rfl⟩
theorem l1Has_yes (h:Option Addr)(n cap:Nat)(f:Nat->Int)(x:Int)(w:World)(hn:n<=1048576)(o:IntsAt w h n f)(c:∃ j,j<n/\f j=x) :
  Calls Tryz.prog 117 #[.slice h n cap,int i64 x] w fun e w'=>e=.returned (.bool true)/\w'=w:=by
 have H:=hI c;clear c;go_enter Tryz.func117,Tryz.ntmps117;go_wp2;go_loop [9] (fun i=>∃ k:Nat,k<=n/\i=int i64 k/\∀ j,j<k->f j≠x) (fun i=>n - (intOf i).toNat)
 case atStart=>exact⟨0,Nat.zero_le _,rfl,by omega⟩
 case round =>
  obtain⟨k,hk,rfl,a⟩:=hrel;have g:=hI a;clear a
  by_cases hlt:k<n
  ·obtain⟨b,off,rfl,hc⟩:=o k hlt
   by_cases he:f k=x
   ·have d:(f k == x)=true:=by simpa using he
    clear he;go_wp2;go_ret;exact⟨rfl,rfl⟩
   ·have d:(f k == x)=false:=by simpa using he
    have l:=hI he;clear he;go_wp2;go_round
    case rel=>exact⟨k+1,by omega,by go_num,fun j m=>by
     by_cases e:j=k
     ·rw[e];exact l.out
     ·exact g.out j (by omega)⟩
    case measure=>simp[intOf];omega
  ·exfalso
   obtain⟨j,m,e⟩:=H.out;exact g.out j (by omega) e
theorem zgh (c:Option Addr)(n cap:Nat)(f:Nat->Int)(x:Int)(w:World)(hn:n<=1048576)(d:IntsAt w c n f) :
  Calls Tryz.prog 117 #[.slice c n cap,int i64 x] w fun e w'=>(∃ b:Bool,e=.returned (.bool b)/\(b=true↔∃ j,j<n/\f j=x))/\w'=w:=by
 by_cases h:∃ j,j<n/\f j=x
 ·exact(l1Has_yes c n cap f x w hn d h).mono fun _ _ ⟨a,b⟩=>⟨⟨true,a,⟨fun _=>h,fun _=>rfl⟩⟩,b⟩
 ·exact(l1Has_no c n cap f x w hn d (fun j g e=>h ⟨j,g,e⟩)).mono fun _ _ ⟨a,b⟩=>⟨⟨false,a,⟨fun e=>(by cases e),fun e=>absurd e h⟩⟩,b⟩
theorem setV {n:Nat}{w w':World}(h:Below n w w'){g o:Nat}(a:n<=g)(v:Value):Below n w (w'.setCell ⟨g,o,none⟩ v):=h.setCell (p:=⟨g,o,none⟩) a v
theorem rec3W {w:World}{g t:Nat}{u0 u1 u2:Value}(h:w.heap[g]?=some (.cells #[u0,u1,u2] t (0,0)))(c d e:Value) :
  (((w.setCell ⟨g,0,none⟩ c).setCell ⟨g,1,none⟩ d).setCell ⟨g,2,none⟩ e).heap[g]?=some (.cells #[c,d,e] t (0,0)):=by
 have a:(w.setCell ⟨g,0,none⟩ c).heap[g]?=some (.cells #[c,u1,u2] t (0,0)):=by simpa using zy h 0 c
 have b:((w.setCell ⟨g,0,none⟩ c).setCell ⟨g,1,none⟩ d).heap[g]?=some (.cells #[c,d,u2] t (0,0)):=by simpa using zy a 1 d
 simpa using zy b 2 e
theorem rowln_set {w:World}{g t:Nat}{u0 u1 u2 u3 u4:Value}(h:w.heap[g]?=some (.cells #[u0,u1,u2,u3,u4] t (0,0)))(v:Value):(w.setCell ⟨g,3,none⟩ v).heap[g]?=some (.cells #[u0,u1,u2,v,u4] t (0,0)):=by simpa using zy h 3 v
theorem zij {w:World}{g t:Nat}{u0 u1 u2 u3 u4:Value}(h:w.heap[g]?=some (.cells #[u0,u1,u2,u3,u4] t (0,0)))(v:Value):(w.setCell ⟨g,4,none⟩ v).heap[g]?=some (.cells #[u0,u1,u2,u3,v] t (0,0)):=by simpa using zy h 4 v
theorem zgi (x:Off)(H g4 a1:Option Addr)(K S d5 k:Nat)(z:Int)(w:World)(hs:Off.Short x 1048576)(g9:SailsAt w H x.san x.sa)(X:QE w g4 x.ldn x.ld)(g6:ZU w a1 x.bkn x.bk)(l5:x.bkn<=30)(g7:qo x.sa z x.san=k)(l8:k<x.san)(k6:x.ldn=x.san) :
  Calls Tryz.prog 144 #[.agg #[.slice H x.san K,.slice g4 x.ldn S,.slice a1 x.bkn d5],int i64 z] w fun e w'=>(∃ v,e=.returned v/\w'.ownsRow w.heap.size 212 5 v (QJ (x.ld k) x.bk z x.bkn).length (ZW (zii (QJ (x.ld k) x.bk z x.bkn)) (QJ (x.ld k) x.bk z x.bkn).length))/\Below w.heap.size w w':=by
 obtain⟨j0,ji,k8,k9,l2⟩:=info_parts Tryz.infoRow;have j1:=hI g9;have i4:=hI g6;have j2:=hI hs;have n1:x.san<=1048576:=hs.1.1;have i6:=hI g7;obtain⟨C,hC,hI⟩:=X;obtain⟨J,lo,rfl,G⟩:=hC k (by omega)
 obtain⟨l,X⟩:∃ l,l=x.ld k:=⟨_,rfl⟩;obtain⟨a2,a5,b8,d6,b9,d7,F,e9,i3,e8,h9,h4,i0⟩:=hI k (by omega)
 rw[← X] at F e9 i3 e8 h9 h4 i0;have d9:=hs.2.1.2 k (by omega)
 rw[← X] at d9;have n2:l.stn<=1048576:=d9.1;have n3:l.ron<=1048576:=d9.2.1;rw[← X];have j3:=hI e9;have i9:=hI e8;have f7:J<w.heap.size:=World.block_lt_of_cell? w _ (G 0 (by decide))
 have l6:(0:Int)<=(k:Int):=by omega
 have l7:(k:Int)<(x.ldn:Int):=by omega
 have b7:Hid (w.cell? ⟨J,lo+k*3,none⟩=some (.slice a2 l.stn a5)/\w.cell? ⟨J,lo+k*3+1,none⟩=some (.slice b8 l.ron d6)/\w.cell? ⟨J,lo+k*3+2,none⟩=some (.slice b9 l.sen d7)) :=
  ⟨by have:=G 0 (by decide);rw[F] at this;exact this,by have:=G 1 (by decide);rw[F] at this;exact this,by have:=G 2 (by decide);rw[F] at this;exact this⟩
 have f8:Hid (∀ w',Below w.heap.size w w'->Calls Tryz.prog 110 #[.slice H x.san K,int i64 z] w' fun e w2=>e=.returned (int i64 k)/\Below w'.heap.size w' w2):=fun w' h =>
  (ZP H x.san K x.sa z w' n1 (j1.out.below h)).mono fun e w2 ⟨a,b⟩=>⟨by
   rw[i6.out] at a
   rcases a with⟨_,rfl⟩|⟨h,_⟩
   ·rfl
   ·omega,b⟩
 have U:Below w.heap.size w (w.alloc (.cells #[.slice H x.san K,.slice (some ⟨J,lo,none⟩) x.ldn S,.slice a1 x.bkn d5] 66)):=zr bZ _;have bO:=heap_alloc_new w (.cells #[.slice H x.san K,.slice (some ⟨J,lo,none⟩) x.ldn S,.slice a1 x.bkn d5] 66);clear g9 g6 hs g7 hC hI G F e9 i3 e8 h9 h4 i0 d9 X k6;go_enter Tryz.func144,Tryz.ntmps144;go_upto_region 1 with fail;generalize w.alloc (.cells #[.slice H x.san K,.slice (some ⟨J,lo,none⟩) x.ldn S,.slice a1 x.bkn d5] 66)=V at U bO ⊢;have k0:=U.size;have BW:Hid (∀ w',Below V.heap.size V w'->Below w.heap.size w w'):=fun w' h=>zj U h
 have j6:=zZ bO;have KS:Hid (∀ w',Below V.heap.size V w'->(w'.cell? ⟨w.heap.size,0,none⟩=some (.slice H x.san K)/\w'.cell? ⟨w.heap.size,1,none⟩=some (.slice (some ⟨J,lo,none⟩) x.ldn S)/\w'.cell? ⟨J,lo+k*3,none⟩=some (.slice a2 l.stn a5)/\w'.cell? ⟨J,lo+k*3+1,none⟩=some (.slice b8 l.ron d6)/\w'.cell? ⟨J,lo+k*3+2,none⟩=some (.slice b9 l.sen d7))):=fun w' h=>by
  have g1:=zc bO h;have g2:=zj U h;exact⟨za g1 0 _ rfl,za g1 1 _ rfl,(g2.cell (p:=⟨J,lo+k*3,none⟩) f7).trans b7.out.1,(g2.cell (p:=⟨J,lo+k*3+1,none⟩) f7).trans b7.out.2.1,(g2.cell (p:=⟨J,lo+k*3+2,none⟩) f7).trans b7.out.2.2⟩
 go_cut [5] (fun s5 wc=>∃ B,s5=.pointer (some ⟨B,0,none⟩)/\wc.heap[B]?=some (.cells #[.slice a2 l.stn a5,.slice b8 l.ron d6,.slice b9 l.sen d7] 136 (0,0))/\Below V.heap.size V wc)
 case first =>
  go_region_held3 (fun w'=>w'.cell? ⟨w.heap.size,0,none⟩=some (.slice H x.san K)/\w'.cell? ⟨w.heap.size,1,none⟩=some (.slice (some ⟨J,lo,none⟩) x.ldn S)/\w'.cell? ⟨J,lo+k*3,none⟩=some (.slice a2 l.stn a5)/\w'.cell? ⟨J,lo+k*3+1,none⟩=some (.slice b8 l.ron d6)/\w'.cell? ⟨J,lo+k*3+2,none⟩=some (.slice b9 l.sen d7))
   ((refine KS.out _ ?_;exact(by repeat(first|exact bZ|refine Below.drew ?_|refine zr ?_ _|refine setV ?_ (by omega) _|refine zj ?_ W))))
   (first|(go_at_call 110;refine Calls.mono (f8.out _ (BW.out _ (by repeat(first|exact bZ|refine Below.drew ?_|refine zr ?_ _|refine setV ?_ (by omega) _|refine zj ?_ W)))) ?_;rintro e w4 ⟨rfl,W⟩;have s4:V.heap.size<=w4.heap.size:=(by have:=W.size;first|omega|(simp at this;omega));(first|(have y:w4.heap[V.heap.size]?=some (.cells #[.slice none 0 0,.slice none 0 0,.slice none 0 0] 136 (0,0)):=zc (heap_alloc_new V.drew (.cells #[.slice none 0 0,.slice none 0 0,.slice none 0 0] 136)) W;have y0:=za y 0 _ rfl;have y1:=za y 1 _ rfl;have y2:=za y 2 _ rfl;have f0:=zg y 0;have f1:=zg y 1;have f2:=zg y 2)|skip)))
  all_goals
   go_wp2;go_meet
   first|exact⟨_,rfl,heap_alloc_new w4 _,(by repeat(first|exact bZ|refine Below.drew ?_|refine zr ?_ _|refine setV ?_ (by omega) _|refine zj ?_ W))⟩|exact⟨_,rfl,rec3W y _ _ _,(by repeat(first|exact bZ|refine Below.drew ?_|refine zr ?_ _|refine setV ?_ (by omega) _|refine zj ?_ W))⟩
 case rest =>
 obtain⟨B,rfl,bL,e5⟩:=hcut;have j5:=zc bO e5;have a6:=zj U e5;clear bO U e5 KS BW f8 b7 j6 k0;have z2:=za j5 2 _ rfl;go_wp2;clear z2;go_loopw [6,8,9,11,13,25] (fun v _ _ _ _ q d=>∃ (i r:Nat),i<=x.bkn/\q=int i64 i/\r=(QJ l x.bk z i).length/\d.ownsRow wc.heap.size 212 5 v r (ZW (zii (QJ l x.bk z i)) r)/\Below wc.heap.size wc d) (fun _ _ _ _ _ q _=>x.bkn - (intOf q).toNat)
 case atStart=>exact⟨0,0,Nat.zero_le _,rfl,rfl,⟨rfl,.inl ⟨rfl,rfl⟩⟩,bZ⟩
 case round =>
  obtain⟨i,r,hi,rfl,g8,a9,a7⟩:=hrel;have a0:=hI g8;have l3:r<=30:=by have:=rowsL_le l x.bk z i;omega
  clear g8;have c:=zj a6 a7
  by_cases hlt2:i<x.bkn
  ·obtain⟨D,hD,hJ⟩:=i4.out
   obtain⟨f,s,rfl,G⟩:=hD i hlt2;obtain⟨b,d8⟩:∃ b,b=x.bk i:=⟨_,rfl⟩;obtain⟨N,P,F,e7,h6⟩:=hJ i hlt2;rw[← d8] at F e7 h6;have b6:=hI d8;have i5:Hid (ZK.Short b 1048576):=by rw[d8];exact j2.out.2.2.2 i hlt2
   have i7:=hI e7;have n:f<w.heap.size:=World.block_lt_of_cell? w _ (G 0 (by decide))
   have c0:d.cell? ⟨f,s+i*13,none⟩=some (int i64 b.name):=(c.cell (p:=⟨f,s+i*13,none⟩) n).trans (by have:=G 0 (by decide);rw[F] at this;exact this)
   have c1:d.cell? ⟨f,s+i*13+1,none⟩=some (int i64 b.who):=(c.cell (p:=⟨f,s+i*13+1,none⟩) n).trans (by have:=G 1 (by decide);rw[F] at this;exact this)
   have c2:d.cell? ⟨f,s+i*13+2,none⟩=some (.string b.own):=(c.cell (p:=⟨f,s+i*13+2,none⟩) n).trans (by have:=G 2 (by decide);rw[F] at this;exact this)
   have c3:d.cell? ⟨f,s+i*13+3,none⟩=some (.slice N b.lgn P):=(c.cell (p:=⟨f,s+i*13+3,none⟩) n).trans (by have:=G 3 (by decide);rw[F] at this;exact this)
   have c4:d.cell? ⟨f,s+i*13+4,none⟩=some (int i64 b.pe):=(c.cell (p:=⟨f,s+i*13+4,none⟩) n).trans (by have:=G 4 (by decide);rw[F] at this;exact this)
   have c5:d.cell? ⟨f,s+i*13+5,none⟩=some (int i64 b.len):=(c.cell (p:=⟨f,s+i*13+5,none⟩) n).trans (by have:=G 5 (by decide);rw[F] at this;exact this)
   have c6:d.cell? ⟨f,s+i*13+6,none⟩=some (int i64 b.hei):=(c.cell (p:=⟨f,s+i*13+6,none⟩) n).trans (by have:=G 6 (by decide);rw[F] at this;exact this)
   have c7:d.cell? ⟨f,s+i*13+7,none⟩=some (int i64 b.cl):=(c.cell (p:=⟨f,s+i*13+7,none⟩) n).trans (by have:=G 7 (by decide);rw[F] at this;exact this)
   have c8:d.cell? ⟨f,s+i*13+8,none⟩=some (.bool b.all):=(c.cell (p:=⟨f,s+i*13+8,none⟩) n).trans (by have:=G 8 (by decide);rw[F] at this;exact this)
   have c9:d.cell? ⟨f,s+i*13+9,none⟩=some (int i64 b.be):=(c.cell (p:=⟨f,s+i*13+9,none⟩) n).trans (by have:=G 9 (by decide);rw[F] at this;exact this)
   have j7:d.cell? ⟨f,s+i*13+10,none⟩=some (int i64 b.state):=(c.cell (p:=⟨f,s+i*13+10,none⟩) n).trans (by have:=G 10 (by decide);rw[F] at this;exact this)
   have j8:d.cell? ⟨f,s+i*13+11,none⟩=some (int i64 b.unt):=(c.cell (p:=⟨f,s+i*13+11,none⟩) n).trans (by have:=G 11 (by decide);rw[F] at this;exact this)
   have j9:d.cell? ⟨f,s+i*13+12,none⟩=some (int i64 b.price):=(c.cell (p:=⟨f,s+i*13+12,none⟩) n).trans (by have:=G 12 (by decide);rw[F] at this;exact this)
   clear hD hJ G F d8 e7 h6;go_wp2_with fail;have bB:=heap_alloc_new d (.cells #[int i64 b.name,int i64 b.who,.string b.own,.slice N b.lgn P,int i64 b.pe,int i64 b.len,int i64 b.hei,int i64 b.cl,.bool b.all,int i64 b.be,int i64 b.state,int i64 b.unt,int i64 b.price] 131);have e6:Below wc.heap.size wc (d.alloc (.cells #[int i64 b.name,int i64 b.who,.string b.own,.slice N b.lgn P,int i64 b.pe,int i64 b.len,int i64 b.hei,int i64 b.cl,.bool b.all,int i64 b.be,int i64 b.state,int i64 b.unt,int i64 b.price] 131)):=zr a7 _;have R:=a9.alloc (.cells #[int i64 b.name,int i64 b.who,.string b.own,.slice N b.lgn P,int i64 b.pe,int i64 b.len,int i64 b.hei,int i64 b.cl,.bool b.all,int i64 b.be,int i64 b.state,int i64 b.unt,int i64 b.price] 131);generalize d.alloc (.cells #[int i64 b.name,int i64 b.who,.string b.own,.slice N b.lgn P,int i64 b.pe,int i64 b.len,int i64 b.hei,int i64 b.cl,.bool b.all,int i64 b.be,int i64 b.state,int i64 b.unt,int i64 b.price] 131)=Y at bB e6 R ⊢;generalize d.heap.size=e4 at bB ⊢;clear c0 c1 c2 c3 c4 c5 c6 c7 c8 c9 j7 j8 j9 a7 c a9;refine(zcq b N P _).mono ?_;rintro e Y1 ⟨rfl,y⟩;have O:=zc bB y;have A:=zj e6 y;have E:=zm y R;clear bB e6 y R;obtain⟨t1,f4⟩:∃ t,t=decide (zee b):=⟨_,rfl⟩;rw[← f4];have e2:Hid (t1=true↔zee b):=by show t1=true↔zee b;rw[f4,decide_eq_true_eq]
   clear f4
   cases t1 with
   | false =>
    have HN:Hid (¬ OnZ (x.bk i) z):=fun h=>by rw[← b6.out] at h;have:=e2.out.2 h.1;cases this
    go_wp2;go_roundw
    case rel=>exact⟨i+1,r,by omega,by go_num,by rw[zbR HN.out];exact a0.out,by rw[zbR HN.out];exact E,A⟩
    case measure=>simp[intOf];omega
   | true =>
    have f9:Hid (zee b):=e2.out.1 rfl;clear e2;have y3:=za O 3 _ rfl;go_wp2_with fail;refine(zgh N b.lgn P b.lg z _ i5.out.2 (i7.out.below (zj a6 A))).mono ?_;rintro e Y2 ⟨⟨t2,rfl,h5⟩,f6⟩;have f6:=f6.symm;subst f6;have e3:=hI h5;clear h5 y3
    cases t2 with
    | false =>
     have HN:Hid (¬ OnZ (x.bk i) z):=fun h=>by rw[← b6.out] at h;have:=e3.out.2 h.2;cases this
     go_wp2;go_roundw
     case rel=>exact⟨i+1,r,by omega,by go_num,by rw[zbR HN.out];exact a0.out,by rw[zbR HN.out];exact E,A⟩
     case measure=>simp[intOf];omega
    | true =>
     have g0:Hid (OnZ (x.bk i) z):=by show OnZ (x.bk i) z;rw[← b6.out];exact⟨f9.out,e3.out.1 rfl⟩
     clear e3 f9;have y0:=za O 0 _ rfl;have y2:=za O 2 _ rfl;have y4:=za O 4 _ rfl;have l0:∀ o,(Y1.alloc o).cell? ⟨B,0,none⟩=some (.slice a2 l.stn a5):=fun o=>za (ze (zc bL A) o) 0 _ rfl
     go_wp2;have bR:=heap_alloc_new Y1 (.cells #[int i64 b.name,.string b.own,int i64 b.pe,int i64 (-1),int i64 (-1)] 212);have a8:Below wc.heap.size wc (Y1.alloc (.cells #[int i64 b.name,.string b.own,int i64 b.pe,int i64 (-1),int i64 (-1)] 212)):=zr A _;have b0:=E.alloc (.cells #[int i64 b.name,.string b.own,int i64 b.pe,int i64 (-1),int i64 (-1)] 212);have d0:=ze O (.cells #[int i64 b.name,.string b.own,int i64 b.pe,int i64 (-1),int i64 (-1)] 212);have f5:=fun g hg=>And.right (World.ownsRow.lt E g hg)
     have k4:wc.heap.size<=Y1.heap.size:=A.size;have g5:e4<Y1.heap.size:=zZ O;generalize Y1.alloc (.cells #[int i64 b.name,.string b.own,int i64 b.pe,int i64 (-1),int i64 (-1)] 212)=R0 at bR a8 b0 d0 ⊢;generalize Y1.heap.size=Z at bR k4 g5 f5 ⊢;clear y0 y2 y4 l0 A O E;have j4:Hid _:=f5;clear f5;have l4:B<wc.heap.size:=zZ bL;go_loopw [11,50] (fun _ q d=>∃ j:Nat,j<=l.stn/\q=int i64 j/\d.heap[Z]?=some (.cells #[int i64 b.name,.string b.own,int i64 b.pe,int i64 (zar l.st b.who j),int i64 (-1)] 212 (0,0))/\zA R0 d (fun b=>b=Z)) (fun _ q _=>l.stn - (intOf q).toNat)
     case atStart=>exact⟨0,Nat.zero_le _,rfl,bR,zA.refl _ _⟩
     case round =>
      obtain⟨j,hj,rfl,T,m⟩:=hrel;have Q:Below wc.heap.size wc d:=zA.below a8 a8.size m (fun g e=>by have e:g=Z:=e;omega)
      have c:=zj a6 Q;have a3:=m.blk d0 (by omega)
      by_cases hjl:j<l.stn
      ·obtain⟨L,M,rfl,h0,h1,h2,h3⟩:=j3.out j hjl
       have I:=World.block_lt_of_cell? w _ h0;have c0:d.cell? ⟨L,M+j*4,none⟩=some (int i64 (l.st j).who):=(c.cell (p:=⟨L,M+j*4,none⟩) I).trans h0;have c1:d.cell? ⟨L,M+j*4+1,none⟩=some (int i64 (l.st j).ln):=(c.cell (p:=⟨L,M+j*4+1,none⟩) I).trans h1;have c2:d.cell? ⟨L,M+j*4+2,none⟩=some (int i64 (l.st j).len):=(c.cell (p:=⟨L,M+j*4+2,none⟩) I).trans h2;have c3:d.cell? ⟨L,M+j*4+3,none⟩=some (int i64 (l.st j).hei):=(c.cell (p:=⟨L,M+j*4+3,none⟩) I).trans h3;clear h0 h1 h2 h3;have y1:∀ o,(d.alloc o).cell? ⟨e4,1,none⟩=some (int i64 b.who):=fun o=>za (ze a3 o) 1 _ rfl
       have r3:∀ o,(d.alloc o).cell? ⟨Z,3,none⟩=some (int i64 (zar l.st b.who j)):=fun o=>za (ze T o) 3 _ rfl
       have g3:∀ o,(d.alloc o).frozen? ⟨Z,3,none⟩=false:=fun o=>zg (ze T o) 3
       have i1:(0:Int)<=(j:Int):=by omega
       have i2:(j:Int)<(l.stn:Int):=by omega
       by_cases he:(l.st j).who=b.who
       ·have e1:((l.st j).who == b.who)=true:=by simpa using he
        have HE:=hI he;clear he;go_wp2;go_roundw
        case rel=>exact⟨j+1,by omega,by go_num,by rw[show zar l.st b.who (j+1)=(l.st j).ln by rw[zar,if_pos HE.out]];exact rowln_set (ze T _) _,(m.trans (zA.of_below (zr bZ _))).set (a:=⟨Z,3,none⟩) rfl _⟩
        case measure=>simp[intOf];omega
       ·have e1:((l.st j).who == b.who)=false:=by simpa using he
        have HE:=hI he;clear he;go_wp2;go_roundw
        case rel=>exact⟨j+1,by omega,by go_num,by rw[show zar l.st b.who (j+1)=zar l.st b.who j by rw[zar,if_neg HE.out]];exact ze T _,m.trans (zA.of_below (zr bZ _))⟩
        case measure=>simp[intOf];omega
      ·obtain rfl:j=l.stn:=by omega
       have l1:=za (zc bL Q) 1 _ rfl;clear Q c a3 bR hj hjl;go_wp2;clear l1;have bR:=T;have e0:=m;clear T m;go_loopw [13,66] (fun _ q d=>∃ j:Nat,j<=l.ron/\q=int i64 j/\d.heap[Z]?=some (.cells #[int i64 b.name,.string b.own,int i64 b.pe,int i64 (zar l.st b.who l.stn),int i64 (QI l.ro b.who j)] 212 (0,0))/\zA R0 d (fun b=>b=Z)) (fun _ q _=>l.ron - (intOf q).toNat)
       case atStart=>exact⟨0,Nat.zero_le _,rfl,bR,e0⟩
       case round =>
        obtain⟨j,hj,rfl,T,m⟩:=hrel;have Q:Below wc.heap.size wc d:=zA.below a8 a8.size m (fun g e=>by have e:g=Z:=e;omega)
        have c:=zj a6 Q;have a3:=m.blk d0 (by omega)
        by_cases hjl:j<l.ron
        ·obtain⟨L,M,rfl,h0,h1,h2,h3⟩:=i9.out j hjl
         have I:=World.block_lt_of_cell? w _ h0;have c0:d.cell? ⟨L,M+j*4,none⟩=some (int i64 (l.ro j).who):=(c.cell (p:=⟨L,M+j*4,none⟩) I).trans h0;have c1:d.cell? ⟨L,M+j*4+1,none⟩=some (int i64 (l.ro j).cab):=(c.cell (p:=⟨L,M+j*4+1,none⟩) I).trans h1;have c2:d.cell? ⟨L,M+j*4+2,none⟩=some (int i64 (l.ro j).many):=(c.cell (p:=⟨L,M+j*4+2,none⟩) I).trans h2;have c3:d.cell? ⟨L,M+j*4+3,none⟩=some (.bool (l.ro j).all):=(c.cell (p:=⟨L,M+j*4+3,none⟩) I).trans h3;clear h0 h1 h2 h3;have y1:∀ o,(d.alloc o).cell? ⟨e4,1,none⟩=some (int i64 b.who):=fun o=>za (ze a3 o) 1 _ rfl
         have r3:∀ o,(d.alloc o).cell? ⟨Z,4,none⟩=some (int i64 (QI l.ro b.who j)):=fun o=>za (ze T o) 4 _ rfl
         have g3:∀ o,(d.alloc o).frozen? ⟨Z,4,none⟩=false:=fun o=>zg (ze T o) 4
         have i1:(0:Int)<=(j:Int):=by omega
         have i2:(j:Int)<(l.ron:Int):=by omega
         by_cases he:(l.ro j).who=b.who
         ·have e1:((l.ro j).who == b.who)=true:=by simpa using he
          have HE:=hI he;clear he;go_wp2;go_roundw
          case rel=>exact⟨j+1,by omega,by go_num,by rw[show QI l.ro b.who (j+1)=(l.ro j).cab by rw[QI,if_pos HE.out]];exact zij (ze T _) _,(m.trans (zA.of_below (zr bZ _))).set (a:=⟨Z,4,none⟩) rfl _⟩
          case measure=>simp[intOf];omega
         ·have e1:((l.ro j).who == b.who)=false:=by simpa using he
          have HE:=hI he;clear he;go_wp2;go_roundw
          case rel=>exact⟨j+1,by omega,by go_num,by rw[show QI l.ro b.who (j+1)=QI l.ro b.who j by rw[QI,if_neg HE.out]];exact ze T _,m.trans (zA.of_below (zr bZ _))⟩
          case measure=>simp[intOf];omega
        ·obtain rfl:j=l.ron:=by omega
         have b5:=m.own b0 (fun g hg e=>by have:=j4.out g hg;have e:g=Z:=e;omega)
         obtain⟨r0,r1,r2,r3,r4⟩:=ce5 T;have l9:=Q.size;clear a3 d0 c bR m e0 T hj hjl;have i8:Hid (∀ ad,(some ⟨d.heap.size,0,none⟩:Option Addr)=some ad->∀ j u,([int i64 b.name,.string b.own,int i64 b.pe,int i64 (zar l.st b.who l.stn),int i64 (QI l.ro b.who l.ron)]:List Value)[j]?=some u->(d.alloc (.cells #[int i64 b.name,.string b.own,int i64 b.pe,int i64 (zar l.st b.who l.stn),int i64 (QI l.ro b.who l.ron)] 212)).cell? (ad.add j)=some u):=by
          intro ad e
          cases e
          exact World.news_of_block (heap_alloc_new d _)
         go_wp2_with (first|(at_builtin;refine zz _ (by rfl) (.tmp 79) (.tmp 81) 125 (by rfl) wc.heap.size 212 j0 (.agg #[int i64 0,.string ⟨#[]⟩,int i64 0,int i64 0,int i64 0]) 5 48 Tryz.underlying125 ji k8 k9 l2 rfl (by decide) _ r (ZW (zii (QJ l x.bk z i)) r) (by rfl) (b5.alloc _) (some ⟨d.heap.size,0,none⟩) 1 1 [int i64 b.name,.string b.own,int i64 b.pe,int i64 (zar l.st b.who l.stn),int i64 (QI l.ro b.who l.ron)] (by rfl) (fun h=>(by cases h)) (by rfl) i8.out (by intro u hu;simp at hu;rcases hu with rfl|rfl|rfl|rfl|rfl <;> rfl) (by unfold maxLen;omega) (by omega) (by simp;omega) ?_;intro v' w3 k7 k5))
         go_roundw
         case rel =>
          refine⟨i+1,r+1,by omega,by go_num,?_,?_,(zr Q _).grown k5 (by simp;omega) (fun j hj=>(b5.lt j hj).1)⟩
          ·rw[zdp g0.out,List.length_append,← a0.out];rfl
          ·have e:=zgg (QJ l x.bk z i) (rowOf l (x.bk i))
           rw[← a0.out] at e;rw[zdp g0.out,e,← b6.out];exact k7
         case measure=>simp[intOf];omega
  ·obtain rfl:i=x.bkn:=by omega
   go_wp2;go_ret;exact⟨⟨_,rfl,by rw[← a0.out];exact zE a9 a6.size⟩,c⟩
end Go.Proofs.YtfallpinmhbemaaGreatDoor

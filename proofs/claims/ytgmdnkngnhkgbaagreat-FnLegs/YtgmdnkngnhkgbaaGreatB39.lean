import Derived.Test.YtgmdnkngnhkgbaaGreatB24
import Derived.Test.YtgmdnkngnhkgbaaGreatB18
namespace Go.Proofs.YtgmdnkngnhkgbaaGreat
open Go.RowKit
open Go.Value (int)
open Go.IntKind (i64)
set_option maxHeartbeats 64000000
set_option maxRecDepth 1000000
theorem setV {n:Nat}{w w':World}(h:Below n w w'){g o:Nat}(a:n<=g)(v:Value):Below n w (w'.setCell ⟨g,o,none⟩ v):=h.setCell (p:=⟨g,o,none⟩) a v
theorem rec3W {w:World}{g t:Nat}{u0 u1 u2:Value}(h:w.heap[g]?=some (.cells #[u0,u1,u2] t (0,0)))(c d e:Value) :
  (((w.setCell ⟨g,0,none⟩ c).setCell ⟨g,1,none⟩ d).setCell ⟨g,2,none⟩ e).heap[g]?=some (.cells #[c,d,e] t (0,0)):=by
 have a:(w.setCell ⟨g,0,none⟩ c).heap[g]?=some (.cells #[c,u1,u2] t (0,0)):=by simpa using zt h 0 c
 have b:((w.setCell ⟨g,0,none⟩ c).setCell ⟨g,1,none⟩ d).heap[g]?=some (.cells #[c,d,u2] t (0,0)):=by simpa using zt a 1 d
 simpa using zt b 2 e
theorem rowln_set {w:World}{g t:Nat}{u0 u1 u2 u3 u4:Value}(h:w.heap[g]?=some (.cells #[u0,u1,u2,u3,u4] t (0,0)))(v:Value):(w.setCell ⟨g,3,none⟩ v).heap[g]?=some (.cells #[u0,u1,u2,v,u4] t (0,0)):=by simpa using zt h 3 v
theorem zgU {w:World}{g t:Nat}{u0 u1 u2 u3 u4:Value}(h:w.heap[g]?=some (.cells #[u0,u1,u2,u3,u4] t (0,0)))(v:Value):(w.setCell ⟨g,4,none⟩ v).heap[g]?=some (.cells #[u0,u1,u2,u3,v] t (0,0)):=by simpa using zt h 4 v
theorem zfw (x:Off)(G g0 a0:Option Addr)(J R d0 k:Nat)(z:Int)(w:World)(hs:Off.Short x 1048576)(g9:SailsAt w G x.san x.sa)(W:Zw w g0 x.ldn x.ld)(g6:qK w a0 x.bkn x.bk)(l5:x.bkn<=30)(g7:zH x.sa z x.san=k)(l8:k<x.san)(k6:x.ldn=x.san) :
  Calls Tryz.prog 130 #[.agg #[.slice G x.san J,.slice g0 x.ldn R,.slice a0 x.bkn d0],int i64 z] w fun e w'=>(∃ v,e=.returned v/\w'.ownsRow w.heap.size 45 5 v (q9 (x.ld k) x.bk z x.bkn).length (qC (zbj (q9 (x.ld k) x.bk z x.bkn)) (q9 (x.ld k) x.bk z x.bkn).length))/\Below w.heap.size w w':=by
 obtain⟨j0,ji,k8,k9,l2⟩:=info_parts Tryz.infoRow;have j1:=hI g9;have i4:=hI g6;have j2:=hI hs;have n1:x.san<=1048576:=hs.1.1;have i6:=hI g7;obtain⟨C,hC,g4⟩:=W;obtain⟨I,lo,rfl,F⟩:=hC k (by omega)
 obtain⟨l,W⟩:∃ l,l=x.ld k:=⟨_,rfl⟩;obtain⟨a1,a3,b7,d5,b8,d6,E,e8,i3,e7,h9,h4,i0⟩:=g4 k (by omega)
 rw[← W] at E e8 i3 e7 h9 h4 i0;have d8:=hs.2.1.2 k (by omega)
 rw[← W] at d8;have n2:l.stn<=1048576:=d8.1;have n3:l.ron<=1048576:=d8.2.1;rw[← W];have j3:=hI e8;have i9:=hI e7;have f6:I<w.heap.size:=World.block_lt_of_cell? w _ (F 0 (by decide))
 have l6:(0:Int)<=(k:Int):=by omega
 have l7:(k:Int)<(x.ldn:Int):=by omega
 have b6:Hid (w.cell? ⟨I,lo+k*3,none⟩=some (.slice a1 l.stn a3)/\w.cell? ⟨I,lo+k*3+1,none⟩=some (.slice b7 l.ron d5)/\w.cell? ⟨I,lo+k*3+2,none⟩=some (.slice b8 l.sen d6)) :=
  ⟨by have:=F 0 (by decide);rw[E] at this;exact this,by have:=F 1 (by decide);rw[E] at this;exact this,by have:=F 2 (by decide);rw[E] at this;exact this⟩
 have f7:Hid (∀ w',Below w.heap.size w w'->Calls Tryz.prog 87 #[.slice G x.san J,int i64 z] w' fun e w2=>e=.returned (int i64 k)/\Below w'.heap.size w' w2):=fun w' h =>
  (Zr G x.san J x.sa z w' n1 (j1.out.below h)).mono fun e w2 ⟨a,b⟩=>⟨by
   rw[i6.out] at a
   rcases a with⟨_,rfl⟩|⟨h,_⟩
   ·rfl
   ·omega,b⟩
 have T:Below w.heap.size w (w.alloc (.cells #[.slice G x.san J,.slice (some ⟨I,lo,none⟩) x.ldn R,.slice a0 x.bkn d0] 27)):=zl bZ _;have bO:=heap_alloc_new w (.cells #[.slice G x.san J,.slice (some ⟨I,lo,none⟩) x.ldn R,.slice a0 x.bkn d0] 27);clear g9 g6 hs g7 hC g4 F E e8 i3 e7 h9 h4 i0 d8 W k6;go_enter Tryz.func130,Tryz.ntmps130;go_upto_region 1 with fail;generalize w.alloc (.cells #[.slice G x.san J,.slice (some ⟨I,lo,none⟩) x.ldn R,.slice a0 x.bkn d0] 27)=V at T bO ⊢;have k0:=T.size;have BW:Hid (∀ w',Below V.heap.size V w'->Below w.heap.size w w'):=fun w' h=>zf T h
 have j6:=zQ bO;have KS:Hid (∀ w',Below V.heap.size V w'->(w'.cell? ⟨w.heap.size,0,none⟩=some (.slice G x.san J)/\w'.cell? ⟨w.heap.size,1,none⟩=some (.slice (some ⟨I,lo,none⟩) x.ldn R)/\w'.cell? ⟨I,lo+k*3,none⟩=some (.slice a1 l.stn a3)/\w'.cell? ⟨I,lo+k*3+1,none⟩=some (.slice b7 l.ron d5)/\w'.cell? ⟨I,lo+k*3+2,none⟩=some (.slice b8 l.sen d6))):=fun w' h=>by
  have g1:=zb bO h;have g2:=zf T h;exact⟨za g1 0 _ rfl,za g1 1 _ rfl,(g2.cell (p:=⟨I,lo+k*3,none⟩) f6).trans b6.out.1,(g2.cell (p:=⟨I,lo+k*3+1,none⟩) f6).trans b6.out.2.1,(g2.cell (p:=⟨I,lo+k*3+2,none⟩) f6).trans b6.out.2.2⟩
 go_cut [5] (fun s5 wc=>∃ B,s5=.pointer (some ⟨B,0,none⟩)/\wc.heap[B]?=some (.cells #[.slice a1 l.stn a3,.slice b7 l.ron d5,.slice b8 l.sen d6] 55 (0,0))/\Below V.heap.size V wc)
 case first =>
  go_region_held3 (fun w'=>w'.cell? ⟨w.heap.size,0,none⟩=some (.slice G x.san J)/\w'.cell? ⟨w.heap.size,1,none⟩=some (.slice (some ⟨I,lo,none⟩) x.ldn R)/\w'.cell? ⟨I,lo+k*3,none⟩=some (.slice a1 l.stn a3)/\w'.cell? ⟨I,lo+k*3+1,none⟩=some (.slice b7 l.ron d5)/\w'.cell? ⟨I,lo+k*3+2,none⟩=some (.slice b8 l.sen d6))
   ((refine KS.out _ ?_;exact(by repeat(first|exact bZ|refine Below.drew ?_|refine zl ?_ _|refine setV ?_ (by omega) _|refine zf ?_ U))))
   (first|(go_at_call 87;refine Calls.mono (f7.out _ (BW.out _ (by repeat(first|exact bZ|refine Below.drew ?_|refine zl ?_ _|refine setV ?_ (by omega) _|refine zf ?_ U)))) ?_;rintro e w4 ⟨rfl,U⟩;have s4:V.heap.size<=w4.heap.size:=(by have:=U.size;first|omega|(simp at this;omega));(first|(have s:w4.heap[V.heap.size]?=some (.cells #[.slice none 0 0,.slice none 0 0,.slice none 0 0] 55 (0,0)):=zb (heap_alloc_new V.drew (.cells #[.slice none 0 0,.slice none 0 0,.slice none 0 0] 55)) U;have y0:=za s 0 _ rfl;have y1:=za s 1 _ rfl;have y2:=za s 2 _ rfl;have f0:=ze s 0;have f1:=ze s 1;have f2:=ze s 2)|skip)))
  all_goals
   go_wp2;go_meet
   first|exact⟨_,rfl,heap_alloc_new w4 _,(by repeat(first|exact bZ|refine Below.drew ?_|refine zl ?_ _|refine setV ?_ (by omega) _|refine zf ?_ U))⟩|exact⟨_,rfl,rec3W s _ _ _,(by repeat(first|exact bZ|refine Below.drew ?_|refine zl ?_ _|refine setV ?_ (by omega) _|refine zf ?_ U))⟩
 case rest =>
 obtain⟨B,rfl,bL,e4⟩:=hcut;have j5:=zb bO e4;have a5:=zf T e4;clear bO T e4 KS BW f7 b6 j6 k0;have z2:=za j5 2 _ rfl;go_wp2;clear z2;go_loopw [6,8,9,11,13,25] (fun v _ _ _ _ q wr=>∃ (i r:Nat),i<=x.bkn/\q=int i64 i/\r=(q9 l x.bk z i).length/\wr.ownsRow wc.heap.size 45 5 v r (qC (zbj (q9 l x.bk z i)) r)/\Below wc.heap.size wc wr) (fun _ _ _ _ _ q _=>x.bkn - (intOf q).toNat)
 case atStart=>exact⟨0,0,Nat.zero_le _,rfl,rfl,⟨rfl,.inl ⟨rfl,rfl⟩⟩,bZ⟩
 case round =>
  obtain⟨i,r,hi,rfl,g8,a8,a6⟩:=hrel;have Z:=hI g8;have l3:r<=30:=by have:=zgy l x.bk z i;omega
  clear g8;have c:=zf a5 a6
  by_cases hlt2:i<x.bkn
  ·obtain⟨D,hD,hJ⟩:=i4.out
   obtain⟨d,n,rfl,F⟩:=hD i hlt2;obtain⟨b,d7⟩:∃ b,b=x.bk i:=⟨_,rfl⟩;obtain⟨M,O,E,e6,h6⟩:=hJ i hlt2;rw[← d7] at E e6 h6;have b5:=hI d7;have i5:Hid (qi.Short b 1048576):=by rw[d7];exact j2.out.2.2.2 i hlt2
   have i7:=hI e6;have m:d<w.heap.size:=World.block_lt_of_cell? w _ (F 0 (by decide))
   have c0:wr.cell? ⟨d,n+i*13,none⟩=some (int i64 b.name):=(c.cell (p:=⟨d,n+i*13,none⟩) m).trans (by have:=F 0 (by decide);rw[E] at this;exact this)
   have c1:wr.cell? ⟨d,n+i*13+1,none⟩=some (int i64 b.who):=(c.cell (p:=⟨d,n+i*13+1,none⟩) m).trans (by have:=F 1 (by decide);rw[E] at this;exact this)
   have c2:wr.cell? ⟨d,n+i*13+2,none⟩=some (.string b.own):=(c.cell (p:=⟨d,n+i*13+2,none⟩) m).trans (by have:=F 2 (by decide);rw[E] at this;exact this)
   have c3:wr.cell? ⟨d,n+i*13+3,none⟩=some (.slice M b.lgn O):=(c.cell (p:=⟨d,n+i*13+3,none⟩) m).trans (by have:=F 3 (by decide);rw[E] at this;exact this)
   have c4:wr.cell? ⟨d,n+i*13+4,none⟩=some (int i64 b.pe):=(c.cell (p:=⟨d,n+i*13+4,none⟩) m).trans (by have:=F 4 (by decide);rw[E] at this;exact this)
   have c5:wr.cell? ⟨d,n+i*13+5,none⟩=some (int i64 b.len):=(c.cell (p:=⟨d,n+i*13+5,none⟩) m).trans (by have:=F 5 (by decide);rw[E] at this;exact this)
   have c6:wr.cell? ⟨d,n+i*13+6,none⟩=some (int i64 b.hei):=(c.cell (p:=⟨d,n+i*13+6,none⟩) m).trans (by have:=F 6 (by decide);rw[E] at this;exact this)
   have c7:wr.cell? ⟨d,n+i*13+7,none⟩=some (int i64 b.cl):=(c.cell (p:=⟨d,n+i*13+7,none⟩) m).trans (by have:=F 7 (by decide);rw[E] at this;exact this)
   have c8:wr.cell? ⟨d,n+i*13+8,none⟩=some (.bool b.all):=(c.cell (p:=⟨d,n+i*13+8,none⟩) m).trans (by have:=F 8 (by decide);rw[E] at this;exact this)
   have c9:wr.cell? ⟨d,n+i*13+9,none⟩=some (int i64 b.be):=(c.cell (p:=⟨d,n+i*13+9,none⟩) m).trans (by have:=F 9 (by decide);rw[E] at this;exact this)
   have j7:wr.cell? ⟨d,n+i*13+10,none⟩=some (int i64 b.state):=(c.cell (p:=⟨d,n+i*13+10,none⟩) m).trans (by have:=F 10 (by decide);rw[E] at this;exact this)
   have j8:wr.cell? ⟨d,n+i*13+11,none⟩=some (int i64 b.unt):=(c.cell (p:=⟨d,n+i*13+11,none⟩) m).trans (by have:=F 11 (by decide);rw[E] at this;exact this)
   have j9:wr.cell? ⟨d,n+i*13+12,none⟩=some (int i64 b.price):=(c.cell (p:=⟨d,n+i*13+12,none⟩) m).trans (by have:=F 12 (by decide);rw[E] at this;exact this)
   clear hD hJ F E d7 e6 h6;go_wp2_with fail;have bB:=heap_alloc_new wr (.cells #[int i64 b.name,int i64 b.who,.string b.own,.slice M b.lgn O,int i64 b.pe,int i64 b.len,int i64 b.hei,int i64 b.cl,.bool b.all,int i64 b.be,int i64 b.state,int i64 b.unt,int i64 b.price] 43);have e5:Below wc.heap.size wc (wr.alloc (.cells #[int i64 b.name,int i64 b.who,.string b.own,.slice M b.lgn O,int i64 b.pe,int i64 b.len,int i64 b.hei,int i64 b.cl,.bool b.all,int i64 b.be,int i64 b.state,int i64 b.unt,int i64 b.price] 43)):=zl a6 _;have Q:=a8.alloc (.cells #[int i64 b.name,int i64 b.who,.string b.own,.slice M b.lgn O,int i64 b.pe,int i64 b.len,int i64 b.hei,int i64 b.cl,.bool b.all,int i64 b.be,int i64 b.state,int i64 b.unt,int i64 b.price] 43);generalize wr.alloc (.cells #[int i64 b.name,int i64 b.who,.string b.own,.slice M b.lgn O,int i64 b.pe,int i64 b.len,int i64 b.hei,int i64 b.cl,.bool b.all,int i64 b.be,int i64 b.state,int i64 b.unt,int i64 b.price] 43)=Y at bB e5 Q ⊢;generalize wr.heap.size=e3 at bB ⊢;clear c0 c1 c2 c3 c4 c5 c6 c7 c8 c9 j7 j8 j9 a6 c a8;refine(zbQ b M O _).mono ?_;rintro e Y1 ⟨rfl,s⟩;have N:=zb bB s;have y:=zf e5 s;have A:=zp s Q;clear bB e5 s Q;obtain⟨t1,e9⟩:∃ t,t=decide (zaZ b):=⟨_,rfl⟩;rw[← e9];have e0:Hid (t1=true↔zaZ b):=by show t1=true↔zaZ b;rw[e9,decide_eq_true_eq]
   clear e9
   cases t1 with
   | false =>
    have HN:Hid (¬ OnZ (x.bk i) z):=fun h=>by rw[← b5.out] at h;have:=e0.out.2 h.1;cases this
    go_wp2;go_roundw
    case rel=>exact⟨i+1,r,by omega,by go_num,by rw[zam HN.out];exact Z.out,by rw[zam HN.out];exact A,y⟩
    case measure=>simp[intOf];omega
   | true =>
    have f8:Hid (zaZ b):=e0.out.1 rfl;clear e0;have y3:=za N 3 _ rfl;go_wp2_with fail;refine(zfv M b.lgn O b.lg z _ i5.out.2 (i7.out.below (zf a5 y))).mono ?_;rintro e Y2 ⟨⟨t2,rfl,h5⟩,f5⟩;have f5:=f5.symm;subst f5;have e2:=hI h5;clear h5 y3
    cases t2 with
    | false =>
     have HN:Hid (¬ OnZ (x.bk i) z):=fun h=>by rw[← b5.out] at h;have:=e2.out.2 h.2;cases this
     go_wp2;go_roundw
     case rel=>exact⟨i+1,r,by omega,by go_num,by rw[zam HN.out];exact Z.out,by rw[zam HN.out];exact A,y⟩
     case measure=>simp[intOf];omega
    | true =>
     have f9:Hid (OnZ (x.bk i) z):=by show OnZ (x.bk i) z;rw[← b5.out];exact⟨f8.out,e2.out.1 rfl⟩
     clear e2 f8;have y0:=za N 0 _ rfl;have y2:=za N 2 _ rfl;have y4:=za N 4 _ rfl;have l0:∀ o,(Y1.alloc o).cell? ⟨B,0,none⟩=some (.slice a1 l.stn a3):=fun o=>za (zc (zb bL y) o) 0 _ rfl
     go_wp2;have bR:=heap_alloc_new Y1 (.cells #[int i64 b.name,.string b.own,int i64 b.pe,int i64 (-1),int i64 (-1)] 45);have a7:Below wc.heap.size wc (Y1.alloc (.cells #[int i64 b.name,.string b.own,int i64 b.pe,int i64 (-1),int i64 (-1)] 45)):=zl y _;have a9:=A.alloc (.cells #[int i64 b.name,.string b.own,int i64 b.pe,int i64 (-1),int i64 (-1)] 45);have b9:=zc N (.cells #[int i64 b.name,.string b.own,int i64 b.pe,int i64 (-1),int i64 (-1)] 45);have f4:=fun g hg=>And.right (World.ownsRow.lt A g hg)
     have k4:wc.heap.size<=Y1.heap.size:=y.size;have g5:e3<Y1.heap.size:=zQ N;generalize Y1.alloc (.cells #[int i64 b.name,.string b.own,int i64 b.pe,int i64 (-1),int i64 (-1)] 45)=R0 at bR a7 a9 b9 ⊢;generalize Y1.heap.size=X at bR k4 g5 f4 ⊢;clear y0 y2 y4 l0 y N A;have j4:Hid _:=f4;clear f4;have l4:B<wc.heap.size:=zQ bL;go_loopw [11,50] (fun _ q wr=>∃ j:Nat,j<=l.stn/\q=int i64 j/\wr.heap[X]?=some (.cells #[int i64 b.name,.string b.own,int i64 b.pe,int i64 (ZM l.st b.who j),int i64 (-1)] 45 (0,0))/\zA R0 wr (fun b=>b=X)) (fun _ q _=>l.stn - (intOf q).toNat)
     case atStart=>exact⟨0,Nat.zero_le _,rfl,bR,zA.refl _ _⟩
     case round =>
      obtain⟨j,hj,rfl,S,f⟩:=hrel;have P:Below wc.heap.size wc wr:=zA.below a7 a7.size f (fun g e=>by have e:g=X:=e;omega)
      have c:=zf a5 P;have a2:=f.blk b9 (by omega)
      by_cases hjl:j<l.stn
      ·obtain⟨K,L,rfl,h0,h1,h2,h3⟩:=j3.out j hjl
       have H:=World.block_lt_of_cell? w _ h0;have c0:wr.cell? ⟨K,L+j*4,none⟩=some (int i64 (l.st j).who):=(c.cell (p:=⟨K,L+j*4,none⟩) H).trans h0;have c1:wr.cell? ⟨K,L+j*4+1,none⟩=some (int i64 (l.st j).ln):=(c.cell (p:=⟨K,L+j*4+1,none⟩) H).trans h1;have c2:wr.cell? ⟨K,L+j*4+2,none⟩=some (int i64 (l.st j).len):=(c.cell (p:=⟨K,L+j*4+2,none⟩) H).trans h2;have c3:wr.cell? ⟨K,L+j*4+3,none⟩=some (int i64 (l.st j).hei):=(c.cell (p:=⟨K,L+j*4+3,none⟩) H).trans h3;clear h0 h1 h2 h3;have y1:∀ o,(wr.alloc o).cell? ⟨e3,1,none⟩=some (int i64 b.who):=fun o=>za (zc a2 o) 1 _ rfl
       have r3:∀ o,(wr.alloc o).cell? ⟨X,3,none⟩=some (int i64 (ZM l.st b.who j)):=fun o=>za (zc S o) 3 _ rfl
       have g3:∀ o,(wr.alloc o).frozen? ⟨X,3,none⟩=false:=fun o=>ze (zc S o) 3
       have i1:(0:Int)<=(j:Int):=by omega
       have i2:(j:Int)<(l.stn:Int):=by omega
       by_cases he:(l.st j).who=b.who
       ·have e1:((l.st j).who == b.who)=true:=by simpa using he
        have HE:=hI he;clear he;go_wp2;go_roundw
        case rel=>exact⟨j+1,by omega,by go_num,by rw[show ZM l.st b.who (j+1)=(l.st j).ln by rw[ZM,if_pos HE.out]];exact rowln_set (zc S _) _,(f.trans (zA.of_below (zl bZ _))).set (a:=⟨X,3,none⟩) rfl _⟩
        case measure=>simp[intOf];omega
       ·have e1:((l.st j).who == b.who)=false:=by simpa using he
        have HE:=hI he;clear he;go_wp2;go_roundw
        case rel=>exact⟨j+1,by omega,by go_num,by rw[show ZM l.st b.who (j+1)=ZM l.st b.who j by rw[ZM,if_neg HE.out]];exact zc S _,f.trans (zA.of_below (zl bZ _))⟩
        case measure=>simp[intOf];omega
      ·obtain rfl:j=l.stn:=by omega
       have l1:=za (zb bL P) 1 _ rfl;clear P c a2 bR hj hjl;go_wp2;clear l1;have bR:=S;have d9:=f;clear S f;go_loopw [13,66] (fun _ q wr=>∃ j:Nat,j<=l.ron/\q=int i64 j/\wr.heap[X]?=some (.cells #[int i64 b.name,.string b.own,int i64 b.pe,int i64 (ZM l.st b.who l.stn),int i64 (Zg l.ro b.who j)] 45 (0,0))/\zA R0 wr (fun b=>b=X)) (fun _ q _=>l.ron - (intOf q).toNat)
       case atStart=>exact⟨0,Nat.zero_le _,rfl,bR,d9⟩
       case round =>
        obtain⟨j,hj,rfl,S,f⟩:=hrel;have P:Below wc.heap.size wc wr:=zA.below a7 a7.size f (fun g e=>by have e:g=X:=e;omega)
        have c:=zf a5 P;have a2:=f.blk b9 (by omega)
        by_cases hjl:j<l.ron
        ·obtain⟨K,L,rfl,h0,h1,h2,h3⟩:=i9.out j hjl
         have H:=World.block_lt_of_cell? w _ h0;have c0:wr.cell? ⟨K,L+j*4,none⟩=some (int i64 (l.ro j).who):=(c.cell (p:=⟨K,L+j*4,none⟩) H).trans h0;have c1:wr.cell? ⟨K,L+j*4+1,none⟩=some (int i64 (l.ro j).cab):=(c.cell (p:=⟨K,L+j*4+1,none⟩) H).trans h1;have c2:wr.cell? ⟨K,L+j*4+2,none⟩=some (int i64 (l.ro j).many):=(c.cell (p:=⟨K,L+j*4+2,none⟩) H).trans h2;have c3:wr.cell? ⟨K,L+j*4+3,none⟩=some (.bool (l.ro j).all):=(c.cell (p:=⟨K,L+j*4+3,none⟩) H).trans h3;clear h0 h1 h2 h3;have y1:∀ o,(wr.alloc o).cell? ⟨e3,1,none⟩=some (int i64 b.who):=fun o=>za (zc a2 o) 1 _ rfl
         have r3:∀ o,(wr.alloc o).cell? ⟨X,4,none⟩=some (int i64 (Zg l.ro b.who j)):=fun o=>za (zc S o) 4 _ rfl
         have g3:∀ o,(wr.alloc o).frozen? ⟨X,4,none⟩=false:=fun o=>ze (zc S o) 4
         have i1:(0:Int)<=(j:Int):=by omega
         have i2:(j:Int)<(l.ron:Int):=by omega
         by_cases he:(l.ro j).who=b.who
         ·have e1:((l.ro j).who == b.who)=true:=by simpa using he
          have HE:=hI he;clear he;go_wp2;go_roundw
          case rel=>exact⟨j+1,by omega,by go_num,by rw[show Zg l.ro b.who (j+1)=(l.ro j).cab by rw[Zg,if_pos HE.out]];exact zgU (zc S _) _,(f.trans (zA.of_below (zl bZ _))).set (a:=⟨X,4,none⟩) rfl _⟩
          case measure=>simp[intOf];omega
         ·have e1:((l.ro j).who == b.who)=false:=by simpa using he
          have HE:=hI he;clear he;go_wp2;go_roundw
          case rel=>exact⟨j+1,by omega,by go_num,by rw[show Zg l.ro b.who (j+1)=Zg l.ro b.who j by rw[Zg,if_neg HE.out]];exact zc S _,f.trans (zA.of_below (zl bZ _))⟩
          case measure=>simp[intOf];omega
        ·obtain rfl:j=l.ron:=by omega
         have b0:=f.own a9 (fun g hg e=>by have:=j4.out g hg;have e:g=X:=e;omega)
         obtain⟨r0,r1,r2,r3,r4⟩:=ce5 S;have l9:=P.size;clear a2 b9 c bR f d9 S hj hjl;have i8:Hid (∀ ad,(some ⟨wr.heap.size,0,none⟩:Option Addr)=some ad->∀ j u,([int i64 b.name,.string b.own,int i64 b.pe,int i64 (ZM l.st b.who l.stn),int i64 (Zg l.ro b.who l.ron)]:List Value)[j]?=some u->(wr.alloc (.cells #[int i64 b.name,.string b.own,int i64 b.pe,int i64 (ZM l.st b.who l.stn),int i64 (Zg l.ro b.who l.ron)] 45)).cell? (ad.add j)=some u):=by
          intro ad e
          cases e
          exact World.news_of_block (heap_alloc_new wr _)
         go_wp2_with (first|(at_builtin;refine zu _ (by rfl) (.tmp 79) (.tmp 81) 34 (by rfl) wc.heap.size 45 j0 (.agg #[int i64 0,.string ⟨#[]⟩,int i64 0,int i64 0,int i64 0]) 5 48 Tryz.underlying34 ji k8 k9 l2 rfl (by decide) _ r (qC (zbj (q9 l x.bk z i)) r) (by rfl) (b0.alloc _) (some ⟨wr.heap.size,0,none⟩) 1 1 [int i64 b.name,.string b.own,int i64 b.pe,int i64 (ZM l.st b.who l.stn),int i64 (Zg l.ro b.who l.ron)] (by rfl) (fun h=>(by cases h)) (by rfl) i8.out (by intro u hu;simp at hu;rcases hu with rfl|rfl|rfl|rfl|rfl <;> rfl) (by unfold maxLen;omega) (by omega) (by simp;omega) ?_;intro v' w3 k7 k5))
         go_roundw
         case rel =>
          refine⟨i+1,r+1,by omega,by go_num,?_,?_,(zl P _).grown k5 (by simp;omega) (fun j hj=>(b0.lt j hj).1)⟩
          ·rw[zaE f9.out,List.length_append,← Z.out];rfl
          ·have e:=zfu (q9 l x.bk z i) (zck l (x.bk i))
           rw[← Z.out] at e;rw[zaE f9.out,e,← b5.out];exact k7
         case measure=>simp[intOf];omega
  ·obtain rfl:i=x.bkn:=by omega
   go_wp2;go_ret;exact⟨⟨_,rfl,by rw[← Z.out];exact zC a8 a5.size⟩,c⟩
end Go.Proofs.YtgmdnkngnhkgbaaGreat

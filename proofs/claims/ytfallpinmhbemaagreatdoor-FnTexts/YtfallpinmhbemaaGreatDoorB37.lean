import Derived.Test.YtfallpinmhbemaaGreatDoorB36
import Derived.Test.YtfallpinmhbemaaGreatDoorB30
namespace Go.Proofs.YtfallpinmhbemaaGreatDoor
open Go.RowKit
open Go.Value (int)
open Go.IntKind (i64)
set_option maxHeartbeats 64000000
set_option maxRecDepth 1000000
inductive ZT (s:Sail) (w:Wk) (x:qT):Int->qT->Prop
 | noStay (r:Nat) (e:w.res=0) (g:w.goes=true) (h:r<x.stn) (q:(x.st r).who=w.who):ZT s w x 0 (x.noStay r)
 | noRoom (r:Nat) (e:w.res=1) (g:w.goes=true) (h:r<x.ron) (q:(x.ro r).who=w.who):ZT s w x 0 (x.noRoom r)
 | noSeat (r:Nat) (e:w.res=2) (g:w.goes=true) (h:r<x.sen) (q:(x.se r).who=w.who):ZT s w x 0 (x.noSeat r)
 | addStay (k:Nat) (e:w.res=0) (g:w.goes=false) (h:zbA s.la x.stn x.st w.p.len w.p.hei (k:Int)):ZT s w x 0 (x.addStay ⟨w.who,(k:Int),w.p.len,w.p.hei⟩)
 | deck (e:w.res=0) (g:w.goes=false) (h:zbA s.la x.stn x.st w.p.len w.p.hei (-1)):ZT s w x 5 x
 | addWhole (k:Nat) (e:w.res=1) (g:w.goes=false) (a:w.p.all=true) (h:RIx x.ron s.ca.n (zbt s.ca x.ron x.ro w.p.cl w.p.pe) (k:Int)):ZT s w x 0 (x.addRoom ⟨w.who,(k:Int),s.ca.B k,true⟩)
 | whole (e:w.res=1) (g:w.goes=false) (a:w.p.all=true) (h:RIx x.ron s.ca.n (zbt s.ca x.ron x.ro w.p.cl w.p.pe) (-1)):ZT s w x 6 x
 | addBerth (k:Nat) (e:w.res=1) (g:w.goes=false) (a:w.p.all=false) (h:RIx x.ron s.ca.n (zbM s.ca x.ron x.ro w.p.cl w.p.be) (k:Int)):ZT s w x 0 (x.addRoom ⟨w.who,(k:Int),w.p.be,false⟩)
 | berth (e:w.res=1) (g:w.goes=false) (a:w.p.all=false) (h:RIx x.ron s.ca.n (zbM s.ca x.ron x.ro w.p.cl w.p.be) (-1)):ZT s w x 6 x
 | addSeat (e:w.res=2) (g:w.goes=false) (hn:x.sen≠60) (hs:zbE x.se x.sen+w.p.pe<=s.most):ZT s w x 0 (x.addSeat ⟨w.who,w.p.pe⟩)
 | seats (e:w.res=2) (g:w.goes=false) (h:x.sen=60∨s.most<zbE x.se x.sen+w.p.pe):ZT s w x 7 x
theorem rIx_at {n m k:Nat}{P:Nat->Prop}(h:RIx n m P (k:Int)):n≠60/\zaC m P k:=by
 rcases h with⟨j,e,a,b⟩|⟨e,_⟩
 ·obtain rfl:k=j:=by omega
  exact⟨a,b⟩
 ·omega
theorem zic {p:qi}{n k:Nat}{S:Nat->ZX}{len hei:Int}(h:zbA p n S len hei (k:Int)):n≠60/\Qy p (QF p S n) len hei k:=by
 rcases h with⟨j,e,a,b⟩|⟨e,_⟩
 ·obtain rfl:k=j:=by omega
  exact⟨a,b⟩
 ·omega
theorem zhd {n m:Nat}{P:Nat->Prop}{r g:Int}(h:RIx n m P r)(i:RIx n m P g):r=g:=by
 rcases h with⟨j,e,a,b⟩|⟨e,a⟩ <;> rcases i with⟨k,f,d,b'⟩|⟨f,d⟩
 ·rw[e,f,zgS b b']
 ·rcases d with c|c
  ·exact absurd c a
  ·exact absurd b (c j)
 ·rcases a with c|c
  ·exact absurd c d
  ·exact absurd b' (c k)
 ·rw[e,f]
theorem zeU (n m:Nat)(P:Nat->Prop):∃ r,RIx n m P r:=by
 by_cases h:n≠60/\∃ k,zaC m P k
 ·obtain⟨a,k,b⟩:=h
  exact⟨k,.inl ⟨k,rfl,a,b⟩⟩
 ·refine⟨-1,.inr ⟨rfl,?_⟩⟩
  by_cases c:n=60
  ·exact .inl c
  ·exact .inr (fun k d=>h ⟨c,k,d⟩)
theorem zhe {p:qi}{n:Nat}{S:Nat->ZX}{len hei r g:Int}(h:zbA p n S len hei r)(i:zbA p n S len hei g):r=g:=by
 rcases h with⟨j,e,a,b⟩|⟨e,a⟩ <;> rcases i with⟨k,f,d,b'⟩|⟨f,d⟩
 ·rw[e,f,zeJ b b']
 ·rcases d with c|c
  ·exact absurd c a
  ·exact absurd b (c j)
 ·rcases a with c|c
  ·exact absurd c d
  ·exact absurd b' (c k)
 ·rw[e,f]
theorem zgd (p:qi)(n:Nat)(S:Nat->ZX)(len hei:Int):∃ r,zbA p n S len hei r:=by
 by_cases h:n≠60/\∃ k,Qy p (QF p S n) len hei k
 ·obtain⟨a,k,b⟩:=h
  exact⟨k,.inl ⟨k,rfl,a,b⟩⟩
 ·refine⟨-1,.inr ⟨rfl,?_⟩⟩
  by_cases c:n=60
  ·exact .inl c
  ·exact .inr (fun k d=>h ⟨c,k,d⟩)
def ComesOk (w:Wk)(x:qT):Prop:=w.goes=false->In w.who 1 9999/\qI w.p/\zbz w.p.len w.p.cl w.res=true/\¬ zeR x w.res w.who
theorem ZT.on {s:Sail}{w:Wk}{x y:qT}{code:Int}(h:ZT s w x code y)(hl:qJ s x)(m:ComesOk w x):(code=0/\zab s w x y)∨(In code 5 7/\y=x):=by
 cases h with
 | noStay r e g h q=>exact .inl ⟨rfl,.noStay r e g h q⟩
 | noRoom r e g h q=>exact .inl ⟨rfl,.noRoom r e g h q⟩
 | noSeat r e g h q=>exact .inl ⟨rfl,.noSeat r e g h q⟩
 | deck e g h=>exact .inr ⟨by unfold In;omega,rfl⟩
 | whole e g a h=>exact .inr ⟨by unfold In;omega,rfl⟩
 | berth e g a h=>exact .inr ⟨by unfold In;omega,rfl⟩
 | seats e g h=>exact .inr ⟨by unfold In;omega,rfl⟩
 | addStay k e g h =>
  obtain⟨f,i,d,b⟩:=m g;have n:=zic h;rw[e] at d b;have o:0<w.p.len:=by simpa [zbz] using d
  have l:Q3 w.p.len w.p.hei:=by rcases i.2.1 with c|c;omega;exact c
  exact .inl ⟨rfl,.addStay k e g ⟨(Ql _ _ _).1 hl.1,n.1,b,f,l.1,l.2,n.2⟩⟩
 | addWhole k e g a h =>
  obtain⟨f,i,d,b⟩:=m g;obtain⟨p,j⟩:=rIx_at h;rw[e] at d b;refine .inl ⟨rfl,.addRoom _ e g rfl f b ⟨?_,fun _=>⟨j.2.1.2.1,rfl⟩,fun h=>(by cases h)⟩⟩
  have:=j.1;unfold In
  show(0:Int)<=(k:Int)/\(k:Int)<=(s.ca.n:Int) - 1
  omega
 | addBerth k e g a h =>
  obtain⟨f,i,d,b⟩:=m g;obtain⟨p,j⟩:=rIx_at h;rw[e] at d b;have o:0<w.p.cl:=by simpa [zbz] using d
  have l:zbH w.p.cl w.p.all w.p.be:=by rcases i.2.2 with c|c;omega;exact c
  refine .inl ⟨rfl,.addRoom _ e g rfl f b ⟨?_,fun h=>(by cases h),fun _=>?_⟩⟩
  ·have:=j.1
   unfold In
   show(0:Int)<=(k:Int)/\(k:Int)<=(s.ca.n:Int) - 1
   omega
  ·rcases l.2 with⟨c,_⟩|⟨_,c⟩
   ·rw[a] at c;cases c
   ·exact⟨c.1,j.2.1.2⟩
 | addSeat e g hn hs =>
  obtain⟨f,i,d,b⟩:=m g;rw[e] at d b;exact .inl ⟨rfl,.addSeat _ e g rfl hn f i.1 b hs⟩
theorem setV {n:Nat}{w w':World}(h:Below n w w'){g o:Nat}(a:n<=g)(v:Value):Below n w (w'.setCell ⟨g,o,none⟩ v):=h.setCell (p:=⟨g,o,none⟩) a v
theorem rec3W {w:World}{g t:Nat}{u0 u1 u2:Value}(h:w.heap[g]?=some (.cells #[u0,u1,u2] t (0,0)))(c d e:Value) :
  (((w.setCell ⟨g,0,none⟩ c).setCell ⟨g,1,none⟩ d).setCell ⟨g,2,none⟩ e).heap[g]?=some (.cells #[c,d,e] t (0,0)):=by
 have a:(w.setCell ⟨g,0,none⟩ c).heap[g]?=some (.cells #[c,u1,u2] t (0,0)):=by simpa using zy h 0 c
 have b:((w.setCell ⟨g,0,none⟩ c).setCell ⟨g,1,none⟩ d).heap[g]?=some (.cells #[c,d,u2] t (0,0)):=by simpa using zy a 1 d
 simpa using zy b 2 e
theorem rowln_set {w:World}{g t:Nat}{u0 u1 u2 u3 u4:Value}(h:w.heap[g]?=some (.cells #[u0,u1,u2,u3,u4] t (0,0)))(v:Value):(w.setCell ⟨g,3,none⟩ v).heap[g]?=some (.cells #[u0,u1,u2,v,u4] t (0,0)):=by simpa using zy h 3 v
theorem zij {w:World}{g t:Nat}{u0 u1 u2 u3 u4:Value}(h:w.heap[g]?=some (.cells #[u0,u1,u2,u3,u4] t (0,0)))(v:Value):(w.setCell ⟨g,4,none⟩ v).heap[g]?=some (.cells #[u0,u1,u2,u3,v] t (0,0)):=by simpa using zy h 4 v
theorem zgi (x:Off)(G g0 a0:Option Addr)(J R d0 k:Nat)(z:Int)(w:World)(hs:Off.Short x 1048576)(g9:SailsAt w G x.san x.sa)(W:QE w g0 x.ldn x.ld)(g6:ZU w a0 x.bkn x.bk)(l5:x.bkn<=30)(g7:qo x.sa z x.san=k)(l8:k<x.san)(k6:x.ldn=x.san) :
  Calls Tryz.prog 144 #[.agg #[.slice G x.san J,.slice g0 x.ldn R,.slice a0 x.bkn d0],int i64 z] w fun e w'=>(∃ v,e=.returned v/\w'.ownsRow w.heap.size 212 5 v (QJ (x.ld k) x.bk z x.bkn).length (ZW (zii (QJ (x.ld k) x.bk z x.bkn)) (QJ (x.ld k) x.bk z x.bkn).length))/\Below w.heap.size w w':=by
 obtain⟨j0,ji,k8,k9,l2⟩:=info_parts Tryz.infoRow;have j1:=hI g9;have i4:=hI g6;have j2:=hI hs;have n1:x.san<=1048576:=hs.1.1;have i6:=hI g7;obtain⟨C,hC,g4⟩:=W;obtain⟨I,lo,rfl,F⟩:=hC k (by omega)
 obtain⟨l,W⟩:∃ l,l=x.ld k:=⟨_,rfl⟩;obtain⟨a1,a3,b7,d5,b8,d6,E,e8,i3,e7,h9,h4,i0⟩:=g4 k (by omega)
 rw[← W] at E e8 i3 e7 h9 h4 i0;have d8:=hs.2.1.2 k (by omega)
 rw[← W] at d8;have n2:l.stn<=1048576:=d8.1;have n3:l.ron<=1048576:=d8.2.1;rw[← W];have j3:=hI e8;have i9:=hI e7;have f6:I<w.heap.size:=World.block_lt_of_cell? w _ (F 0 (by decide))
 have l6:(0:Int)<=(k:Int):=by omega
 have l7:(k:Int)<(x.ldn:Int):=by omega
 have b6:Hid (w.cell? ⟨I,lo+k*3,none⟩=some (.slice a1 l.stn a3)/\w.cell? ⟨I,lo+k*3+1,none⟩=some (.slice b7 l.ron d5)/\w.cell? ⟨I,lo+k*3+2,none⟩=some (.slice b8 l.sen d6)) :=
  ⟨by have:=F 0 (by decide);rw[E] at this;exact this,by have:=F 1 (by decide);rw[E] at this;exact this,by have:=F 2 (by decide);rw[E] at this;exact this⟩
 have f7:Hid (∀ w',Below w.heap.size w w'->Calls Tryz.prog 110 #[.slice G x.san J,int i64 z] w' fun e w2=>e=.returned (int i64 k)/\Below w'.heap.size w' w2):=fun w' h =>
  (ZP G x.san J x.sa z w' n1 (j1.out.below h)).mono fun e w2 ⟨a,b⟩=>⟨by
   rw[i6.out] at a
   rcases a with⟨_,rfl⟩|⟨h,_⟩
   ·rfl
   ·omega,b⟩
 have T:Below w.heap.size w (w.alloc (.cells #[.slice G x.san J,.slice (some ⟨I,lo,none⟩) x.ldn R,.slice a0 x.bkn d0] 66)):=zr bZ _;have bO:=heap_alloc_new w (.cells #[.slice G x.san J,.slice (some ⟨I,lo,none⟩) x.ldn R,.slice a0 x.bkn d0] 66);clear g9 g6 hs g7 hC g4 F E e8 i3 e7 h9 h4 i0 d8 W k6;go_enter Tryz.func144,Tryz.ntmps144;go_upto_region 1 with fail;generalize w.alloc (.cells #[.slice G x.san J,.slice (some ⟨I,lo,none⟩) x.ldn R,.slice a0 x.bkn d0] 66)=V at T bO ⊢;have k0:=T.size;have BW:Hid (∀ w',Below V.heap.size V w'->Below w.heap.size w w'):=fun w' h=>zj T h
 have j6:=zZ bO;have KS:Hid (∀ w',Below V.heap.size V w'->(w'.cell? ⟨w.heap.size,0,none⟩=some (.slice G x.san J)/\w'.cell? ⟨w.heap.size,1,none⟩=some (.slice (some ⟨I,lo,none⟩) x.ldn R)/\w'.cell? ⟨I,lo+k*3,none⟩=some (.slice a1 l.stn a3)/\w'.cell? ⟨I,lo+k*3+1,none⟩=some (.slice b7 l.ron d5)/\w'.cell? ⟨I,lo+k*3+2,none⟩=some (.slice b8 l.sen d6))):=fun w' h=>by
  have g1:=zc bO h;have g2:=zj T h;exact⟨za g1 0 _ rfl,za g1 1 _ rfl,(g2.cell (p:=⟨I,lo+k*3,none⟩) f6).trans b6.out.1,(g2.cell (p:=⟨I,lo+k*3+1,none⟩) f6).trans b6.out.2.1,(g2.cell (p:=⟨I,lo+k*3+2,none⟩) f6).trans b6.out.2.2⟩
 go_cut [5] (fun s5 wc=>∃ B,s5=.pointer (some ⟨B,0,none⟩)/\wc.heap[B]?=some (.cells #[.slice a1 l.stn a3,.slice b7 l.ron d5,.slice b8 l.sen d6] 136 (0,0))/\Below V.heap.size V wc)
 case first =>
  go_region_held3 (fun w'=>w'.cell? ⟨w.heap.size,0,none⟩=some (.slice G x.san J)/\w'.cell? ⟨w.heap.size,1,none⟩=some (.slice (some ⟨I,lo,none⟩) x.ldn R)/\w'.cell? ⟨I,lo+k*3,none⟩=some (.slice a1 l.stn a3)/\w'.cell? ⟨I,lo+k*3+1,none⟩=some (.slice b7 l.ron d5)/\w'.cell? ⟨I,lo+k*3+2,none⟩=some (.slice b8 l.sen d6))
   ((refine KS.out _ ?_;exact(by repeat(first|exact bZ|refine Below.drew ?_|refine zr ?_ _|refine setV ?_ (by omega) _|refine zj ?_ U))))
   (first|(go_at_call 110;refine Calls.mono (f7.out _ (BW.out _ (by repeat(first|exact bZ|refine Below.drew ?_|refine zr ?_ _|refine setV ?_ (by omega) _|refine zj ?_ U)))) ?_;rintro e w4 ⟨rfl,U⟩;have s4:V.heap.size<=w4.heap.size:=(by have:=U.size;first|omega|(simp at this;omega));(first|(have s:w4.heap[V.heap.size]?=some (.cells #[.slice none 0 0,.slice none 0 0,.slice none 0 0] 136 (0,0)):=zc (heap_alloc_new V.drew (.cells #[.slice none 0 0,.slice none 0 0,.slice none 0 0] 136)) U;have y0:=za s 0 _ rfl;have y1:=za s 1 _ rfl;have y2:=za s 2 _ rfl;have f0:=zg s 0;have f1:=zg s 1;have f2:=zg s 2)|skip)))
  all_goals
   go_wp2;go_meet
   first|exact⟨_,rfl,heap_alloc_new w4 _,(by repeat(first|exact bZ|refine Below.drew ?_|refine zr ?_ _|refine setV ?_ (by omega) _|refine zj ?_ U))⟩|exact⟨_,rfl,rec3W s _ _ _,(by repeat(first|exact bZ|refine Below.drew ?_|refine zr ?_ _|refine setV ?_ (by omega) _|refine zj ?_ U))⟩
 case rest =>
 obtain⟨B,rfl,bL,e4⟩:=hcut;have j5:=zc bO e4;have a5:=zj T e4;clear bO T e4 KS BW f7 b6 j6 k0;have z2:=za j5 2 _ rfl;go_wp2;clear z2;go_loopw [6,8,9,11,13,25] (fun v _ _ _ _ q wr=>∃ (i r:Nat),i<=x.bkn/\q=int i64 i/\r=(QJ l x.bk z i).length/\wr.ownsRow wc.heap.size 212 5 v r (ZW (zii (QJ l x.bk z i)) r)/\Below wc.heap.size wc wr) (fun _ _ _ _ _ q _=>x.bkn - (intOf q).toNat)
 case atStart=>exact⟨0,0,Nat.zero_le _,rfl,rfl,⟨rfl,.inl ⟨rfl,rfl⟩⟩,bZ⟩
 case round =>
  obtain⟨i,r,hi,rfl,g8,a8,a6⟩:=hrel;have Z:=hI g8;have l3:r<=30:=by have:=rowsL_le l x.bk z i;omega
  clear g8;have c:=zj a5 a6
  by_cases hlt2:i<x.bkn
  ·obtain⟨D,hD,hJ⟩:=i4.out
   obtain⟨d,n,rfl,F⟩:=hD i hlt2;obtain⟨b,d7⟩:∃ b,b=x.bk i:=⟨_,rfl⟩;obtain⟨M,O,E,e6,h6⟩:=hJ i hlt2;rw[← d7] at E e6 h6;have b5:=hI d7;have i5:Hid (ZK.Short b 1048576):=by rw[d7];exact j2.out.2.2.2 i hlt2
   have i7:=hI e6;have m:d<w.heap.size:=World.block_lt_of_cell? w _ (F 0 (by decide))
   have c0:wr.cell? ⟨d,n+i*13,none⟩=some (int i64 b.name):=(c.cell (p:=⟨d,n+i*13,none⟩) m).trans (by have:=F 0 (by decide);rw[E] at this;exact this)
   have c1:wr.cell? ⟨d,n+i*13+1,none⟩=some (int i64 b.who):=(c.cell (p:=⟨d,n+i*13+1,none⟩) m).trans (by have:=F 1 (by decide);rw[E] at this;exact this)
   have c2:wr.cell? ⟨d,n+i*13+2,none⟩=some (.string b.own):=(c.cell (p:=⟨d,n+i*13+2,none⟩) m).trans (by have:=F 2 (by decide);rw[E] at this;exact this)
   have c3:wr.cell? ⟨d,n+i*13+3,none⟩=some (.slice M b.lgn O):=(c.cell (p:=⟨d,n+i*13+3,none⟩) m).trans (by have:=F 3 (by decide);rw[E] at this;exact this)
   have c4:wr.cell? ⟨d,n+i*13+4,none⟩=some (int i64 b.pe):=(c.cell (p:=⟨d,n+i*13+4,none⟩) m).trans (by have:=F 4 (by decide);rw[E] at this;exact this)
   have c5:wr.cell? ⟨d,n+i*13+5,none⟩=some (int i64 b.len):=(c.cell (p:=⟨d,n+i*13+5,none⟩) m).trans (by have:=F 5 (by decide);rw[E] at this;exact this)
   have c6:wr.cell? ⟨d,n+i*13+6,none⟩=some (int i64 b.hei):=(c.cell (p:=⟨d,n+i*13+6,none⟩) m).trans (by have:=F 6 (by decide);rw[E] at this;exact this)
   have c7:wr.cell? ⟨d,n+i*13+7,none⟩=some (int i64 b.cl):=(c.cell (p:=⟨d,n+i*13+7,none⟩) m).trans (by have:=F 7 (by decide);rw[E] at this;exact this)
   have c8:wr.cell? ⟨d,n+i*13+8,none⟩=some (.bool b.all):=(c.cell (p:=⟨d,n+i*13+8,none⟩) m).trans (by have:=F 8 (by decide);rw[E] at this;exact this)
   have c9:wr.cell? ⟨d,n+i*13+9,none⟩=some (int i64 b.be):=(c.cell (p:=⟨d,n+i*13+9,none⟩) m).trans (by have:=F 9 (by decide);rw[E] at this;exact this)
   have j7:wr.cell? ⟨d,n+i*13+10,none⟩=some (int i64 b.state):=(c.cell (p:=⟨d,n+i*13+10,none⟩) m).trans (by have:=F 10 (by decide);rw[E] at this;exact this)
   have j8:wr.cell? ⟨d,n+i*13+11,none⟩=some (int i64 b.unt):=(c.cell (p:=⟨d,n+i*13+11,none⟩) m).trans (by have:=F 11 (by decide);rw[E] at this;exact this)
   have j9:wr.cell? ⟨d,n+i*13+12,none⟩=some (int i64 b.price):=(c.cell (p:=⟨d,n+i*13+12,none⟩) m).trans (by have:=F 12 (by decide);rw[E] at this;exact this)
   clear hD hJ F E d7 e6 h6;go_wp2_with fail;have bB:=heap_alloc_new wr (.cells #[int i64 b.name,int i64 b.who,.string b.own,.slice M b.lgn O,int i64 b.pe,int i64 b.len,int i64 b.hei,int i64 b.cl,.bool b.all,int i64 b.be,int i64 b.state,int i64 b.unt,int i64 b.price] 131);have e5:Below wc.heap.size wc (wr.alloc (.cells #[int i64 b.name,int i64 b.who,.string b.own,.slice M b.lgn O,int i64 b.pe,int i64 b.len,int i64 b.hei,int i64 b.cl,.bool b.all,int i64 b.be,int i64 b.state,int i64 b.unt,int i64 b.price] 131)):=zr a6 _;have Q:=a8.alloc (.cells #[int i64 b.name,int i64 b.who,.string b.own,.slice M b.lgn O,int i64 b.pe,int i64 b.len,int i64 b.hei,int i64 b.cl,.bool b.all,int i64 b.be,int i64 b.state,int i64 b.unt,int i64 b.price] 131);generalize wr.alloc (.cells #[int i64 b.name,int i64 b.who,.string b.own,.slice M b.lgn O,int i64 b.pe,int i64 b.len,int i64 b.hei,int i64 b.cl,.bool b.all,int i64 b.be,int i64 b.state,int i64 b.unt,int i64 b.price] 131)=Y at bB e5 Q ⊢;generalize wr.heap.size=e3 at bB ⊢;clear c0 c1 c2 c3 c4 c5 c6 c7 c8 c9 j7 j8 j9 a6 c a8;refine(zcq b M O _).mono ?_;rintro e Y1 ⟨rfl,s⟩;have N:=zc bB s;have y:=zj e5 s;have A:=zm s Q;clear bB e5 s Q;obtain⟨t1,e9⟩:∃ t,t=decide (zee b):=⟨_,rfl⟩;rw[← e9];have e0:Hid (t1=true↔zee b):=by show t1=true↔zee b;rw[e9,decide_eq_true_eq]
   clear e9
   cases t1 with
   | false =>
    have HN:Hid (¬ OnZ (x.bk i) z):=fun h=>by rw[← b5.out] at h;have:=e0.out.2 h.1;cases this
    go_wp2;go_roundw
    case rel=>exact⟨i+1,r,by omega,by go_num,by rw[zbR HN.out];exact Z.out,by rw[zbR HN.out];exact A,y⟩
    case measure=>simp[intOf];omega
   | true =>
    have f8:Hid (zee b):=e0.out.1 rfl;clear e0;have y3:=za N 3 _ rfl;go_wp2_with fail;refine(zgh M b.lgn O b.lg z _ i5.out.2 (i7.out.below (zj a5 y))).mono ?_;rintro e Y2 ⟨⟨t2,rfl,h5⟩,f5⟩;have f5:=f5.symm;subst f5;have e2:=hI h5;clear h5 y3
    cases t2 with
    | false =>
     have HN:Hid (¬ OnZ (x.bk i) z):=fun h=>by rw[← b5.out] at h;have:=e2.out.2 h.2;cases this
     go_wp2;go_roundw
     case rel=>exact⟨i+1,r,by omega,by go_num,by rw[zbR HN.out];exact Z.out,by rw[zbR HN.out];exact A,y⟩
     case measure=>simp[intOf];omega
    | true =>
     have f9:Hid (OnZ (x.bk i) z):=by show OnZ (x.bk i) z;rw[← b5.out];exact⟨f8.out,e2.out.1 rfl⟩
     clear e2 f8;have y0:=za N 0 _ rfl;have y2:=za N 2 _ rfl;have y4:=za N 4 _ rfl;have l0:∀ o,(Y1.alloc o).cell? ⟨B,0,none⟩=some (.slice a1 l.stn a3):=fun o=>za (ze (zc bL y) o) 0 _ rfl
     go_wp2;have bR:=heap_alloc_new Y1 (.cells #[int i64 b.name,.string b.own,int i64 b.pe,int i64 (-1),int i64 (-1)] 212);have a7:Below wc.heap.size wc (Y1.alloc (.cells #[int i64 b.name,.string b.own,int i64 b.pe,int i64 (-1),int i64 (-1)] 212)):=zr y _;have a9:=A.alloc (.cells #[int i64 b.name,.string b.own,int i64 b.pe,int i64 (-1),int i64 (-1)] 212);have b9:=ze N (.cells #[int i64 b.name,.string b.own,int i64 b.pe,int i64 (-1),int i64 (-1)] 212);have f4:=fun g hg=>And.right (World.ownsRow.lt A g hg)
     have k4:wc.heap.size<=Y1.heap.size:=y.size;have g5:e3<Y1.heap.size:=zZ N;generalize Y1.alloc (.cells #[int i64 b.name,.string b.own,int i64 b.pe,int i64 (-1),int i64 (-1)] 212)=R0 at bR a7 a9 b9 ⊢;generalize Y1.heap.size=X at bR k4 g5 f4 ⊢;clear y0 y2 y4 l0 y N A;have j4:Hid _:=f4;clear f4;have l4:B<wc.heap.size:=zZ bL;go_loopw [11,50] (fun _ q wr=>∃ j:Nat,j<=l.stn/\q=int i64 j/\wr.heap[X]?=some (.cells #[int i64 b.name,.string b.own,int i64 b.pe,int i64 (zar l.st b.who j),int i64 (-1)] 212 (0,0))/\zA R0 wr (fun b=>b=X)) (fun _ q _=>l.stn - (intOf q).toNat)
     case atStart=>exact⟨0,Nat.zero_le _,rfl,bR,zA.refl _ _⟩
     case round =>
      obtain⟨j,hj,rfl,S,f⟩:=hrel;have P:Below wc.heap.size wc wr:=zA.below a7 a7.size f (fun g e=>by have e:g=X:=e;omega)
      have c:=zj a5 P;have a2:=f.blk b9 (by omega)
      by_cases hjl:j<l.stn
      ·obtain⟨K,L,rfl,h0,h1,h2,h3⟩:=j3.out j hjl
       have H:=World.block_lt_of_cell? w _ h0;have c0:wr.cell? ⟨K,L+j*4,none⟩=some (int i64 (l.st j).who):=(c.cell (p:=⟨K,L+j*4,none⟩) H).trans h0;have c1:wr.cell? ⟨K,L+j*4+1,none⟩=some (int i64 (l.st j).ln):=(c.cell (p:=⟨K,L+j*4+1,none⟩) H).trans h1;have c2:wr.cell? ⟨K,L+j*4+2,none⟩=some (int i64 (l.st j).len):=(c.cell (p:=⟨K,L+j*4+2,none⟩) H).trans h2;have c3:wr.cell? ⟨K,L+j*4+3,none⟩=some (int i64 (l.st j).hei):=(c.cell (p:=⟨K,L+j*4+3,none⟩) H).trans h3;clear h0 h1 h2 h3;have y1:∀ o,(wr.alloc o).cell? ⟨e3,1,none⟩=some (int i64 b.who):=fun o=>za (ze a2 o) 1 _ rfl
       have r3:∀ o,(wr.alloc o).cell? ⟨X,3,none⟩=some (int i64 (zar l.st b.who j)):=fun o=>za (ze S o) 3 _ rfl
       have g3:∀ o,(wr.alloc o).frozen? ⟨X,3,none⟩=false:=fun o=>zg (ze S o) 3
       have i1:(0:Int)<=(j:Int):=by omega
       have i2:(j:Int)<(l.stn:Int):=by omega
       by_cases he:(l.st j).who=b.who
       ·have e1:((l.st j).who == b.who)=true:=by simpa using he
        have HE:=hI he;clear he;go_wp2;go_roundw
        case rel=>exact⟨j+1,by omega,by go_num,by rw[show zar l.st b.who (j+1)=(l.st j).ln by rw[zar,if_pos HE.out]];exact rowln_set (ze S _) _,(f.trans (zA.of_below (zr bZ _))).set (a:=⟨X,3,none⟩) rfl _⟩
        case measure=>simp[intOf];omega
       ·have e1:((l.st j).who == b.who)=false:=by simpa using he
        have HE:=hI he;clear he;go_wp2;go_roundw
        case rel=>exact⟨j+1,by omega,by go_num,by rw[show zar l.st b.who (j+1)=zar l.st b.who j by rw[zar,if_neg HE.out]];exact ze S _,f.trans (zA.of_below (zr bZ _))⟩
        case measure=>simp[intOf];omega
      ·obtain rfl:j=l.stn:=by omega
       have l1:=za (zc bL P) 1 _ rfl;clear P c a2 bR hj hjl;go_wp2;clear l1;have bR:=S;have d9:=f;clear S f;go_loopw [13,66] (fun _ q wr=>∃ j:Nat,j<=l.ron/\q=int i64 j/\wr.heap[X]?=some (.cells #[int i64 b.name,.string b.own,int i64 b.pe,int i64 (zar l.st b.who l.stn),int i64 (QI l.ro b.who j)] 212 (0,0))/\zA R0 wr (fun b=>b=X)) (fun _ q _=>l.ron - (intOf q).toNat)
       case atStart=>exact⟨0,Nat.zero_le _,rfl,bR,d9⟩
       case round =>
        obtain⟨j,hj,rfl,S,f⟩:=hrel;have P:Below wc.heap.size wc wr:=zA.below a7 a7.size f (fun g e=>by have e:g=X:=e;omega)
        have c:=zj a5 P;have a2:=f.blk b9 (by omega)
        by_cases hjl:j<l.ron
        ·obtain⟨K,L,rfl,h0,h1,h2,h3⟩:=i9.out j hjl
         have H:=World.block_lt_of_cell? w _ h0;have c0:wr.cell? ⟨K,L+j*4,none⟩=some (int i64 (l.ro j).who):=(c.cell (p:=⟨K,L+j*4,none⟩) H).trans h0;have c1:wr.cell? ⟨K,L+j*4+1,none⟩=some (int i64 (l.ro j).cab):=(c.cell (p:=⟨K,L+j*4+1,none⟩) H).trans h1;have c2:wr.cell? ⟨K,L+j*4+2,none⟩=some (int i64 (l.ro j).many):=(c.cell (p:=⟨K,L+j*4+2,none⟩) H).trans h2;have c3:wr.cell? ⟨K,L+j*4+3,none⟩=some (.bool (l.ro j).all):=(c.cell (p:=⟨K,L+j*4+3,none⟩) H).trans h3;clear h0 h1 h2 h3;have y1:∀ o,(wr.alloc o).cell? ⟨e3,1,none⟩=some (int i64 b.who):=fun o=>za (ze a2 o) 1 _ rfl
         have r3:∀ o,(wr.alloc o).cell? ⟨X,4,none⟩=some (int i64 (QI l.ro b.who j)):=fun o=>za (ze S o) 4 _ rfl
         have g3:∀ o,(wr.alloc o).frozen? ⟨X,4,none⟩=false:=fun o=>zg (ze S o) 4
         have i1:(0:Int)<=(j:Int):=by omega
         have i2:(j:Int)<(l.ron:Int):=by omega
         by_cases he:(l.ro j).who=b.who
         ·have e1:((l.ro j).who == b.who)=true:=by simpa using he
          have HE:=hI he;clear he;go_wp2;go_roundw
          case rel=>exact⟨j+1,by omega,by go_num,by rw[show QI l.ro b.who (j+1)=(l.ro j).cab by rw[QI,if_pos HE.out]];exact zij (ze S _) _,(f.trans (zA.of_below (zr bZ _))).set (a:=⟨X,4,none⟩) rfl _⟩
          case measure=>simp[intOf];omega
         ·have e1:((l.ro j).who == b.who)=false:=by simpa using he
          have HE:=hI he;clear he;go_wp2;go_roundw
          case rel=>exact⟨j+1,by omega,by go_num,by rw[show QI l.ro b.who (j+1)=QI l.ro b.who j by rw[QI,if_neg HE.out]];exact ze S _,f.trans (zA.of_below (zr bZ _))⟩
          case measure=>simp[intOf];omega
        ·obtain rfl:j=l.ron:=by omega
         have b0:=f.own a9 (fun g hg e=>by have:=j4.out g hg;have e:g=X:=e;omega)
         obtain⟨r0,r1,r2,r3,r4⟩:=ce5 S;have l9:=P.size;clear a2 b9 c bR f d9 S hj hjl;have i8:Hid (∀ ad,(some ⟨wr.heap.size,0,none⟩:Option Addr)=some ad->∀ j u,([int i64 b.name,.string b.own,int i64 b.pe,int i64 (zar l.st b.who l.stn),int i64 (QI l.ro b.who l.ron)]:List Value)[j]?=some u->(wr.alloc (.cells #[int i64 b.name,.string b.own,int i64 b.pe,int i64 (zar l.st b.who l.stn),int i64 (QI l.ro b.who l.ron)] 212)).cell? (ad.add j)=some u):=by
          intro ad e
          cases e
          exact World.news_of_block (heap_alloc_new wr _)
         go_wp2_with (first|(at_builtin;refine zz _ (by rfl) (.tmp 79) (.tmp 81) 125 (by rfl) wc.heap.size 212 j0 (.agg #[int i64 0,.string ⟨#[]⟩,int i64 0,int i64 0,int i64 0]) 5 48 Tryz.underlying125 ji k8 k9 l2 rfl (by decide) _ r (ZW (zii (QJ l x.bk z i)) r) (by rfl) (b0.alloc _) (some ⟨wr.heap.size,0,none⟩) 1 1 [int i64 b.name,.string b.own,int i64 b.pe,int i64 (zar l.st b.who l.stn),int i64 (QI l.ro b.who l.ron)] (by rfl) (fun h=>(by cases h)) (by rfl) i8.out (by intro u hu;simp at hu;rcases hu with rfl|rfl|rfl|rfl|rfl <;> rfl) (by unfold maxLen;omega) (by omega) (by simp;omega) ?_;intro v' w3 k7 k5))
         go_roundw
         case rel =>
          refine⟨i+1,r+1,by omega,by go_num,?_,?_,(zr P _).grown k5 (by simp;omega) (fun j hj=>(b0.lt j hj).1)⟩
          ·rw[zdp f9.out,List.length_append,← Z.out];rfl
          ·have e:=zgg (QJ l x.bk z i) (rowOf l (x.bk i))
           rw[← Z.out] at e;rw[zdp f9.out,e,← b5.out];exact k7
         case measure=>simp[intOf];omega
  ·obtain rfl:i=x.bkn:=by omega
   go_wp2;go_ret;exact⟨⟨_,rfl,by rw[← Z.out];exact zE a8 a5.size⟩,c⟩
section
open Go.RowKit
def zcR (g base N R k i c h:Nat)(f a d:Option Addr)(v:Wk)(x:Off)(L C E:Nat->Value)(w:World)(e:Ending)(w':World):Prop :=
 ∃ code y A B D,e=.returned (int i64 code)/\ZT (x.sa k) v (x.ld k) code y/\zV w' base (.slice f N i) (.slice a N c) (.slice d R h) N N R { x with ld:=zfC x.ld k y } L C A B D E /\
  w'.heap[g]?=some (.cells #[.slice f N i,.slice a N c,.slice d R h] 66 (0,0))/\zA w w' (fun b=>(Value.slice a N c).ownBlock=some b)
section
variable {w z : World} {g gl base N R k csa cld cbk n : Nat} {asa abk : Option Addr} {v : Wk} {x : Off} {L C A B D E : Nat -> Value} {u : Value}
theorem doSt {T:Nat->ZX}(l:zV w base (.slice asa N csa) (.slice (some ⟨gl,0,none⟩) N cld) (.slice abk R cbk) N N R x L C A B D E)(o:w.heap[g]?=some (.cells #[.slice asa N csa,.slice (some ⟨gl,0,none⟩) N cld,.slice abk R cbk] 66 (0,0)))(h:base<=w.heap.size)(f:Below w.heap.size w z)(d:z.ownsRow w.heap.size 186 4 u n (zX T n))(q:ZT (x.sa k) v (x.ld k) 0 { x.ld k with stn:=n,st:=T }) :
  zcR g base N R k csa cld cbk asa (some ⟨gl,0,none⟩) abk v x L C E w (.returned (int i64 0)) (z.setCell ⟨gl,k*3,none⟩ u):=by
 obtain⟨cs,c⟩:=zT l.ld.row gl rfl;have j:g≠gl:=fun e=>by subst e;rw[o] at c;simp at c
 have m:zA z (z.setCell ⟨gl,k*3+0,none⟩ u) (fun b=>(Value.slice (some ⟨gl,0,none⟩) N cld).ownBlock=some b):=(zA.refl z (fun b=>(Value.slice (some ⟨gl,0,none⟩) N cld).ownBlock=some b)).set (a:=⟨gl,k*3+0,none⟩) (by rfl) u
 exact⟨0,_,_,_,_,rfl,q,(l.below f).putSt (k:=k) (lim:=w.heap.size) (fun i p b e=>((l.ld.st i p).lt b e).2) d h,m.blk (zc o f) (fun e=>j (by simpa [Value.ownBlock] using e.symm)),(zA.of_below f).trans m⟩
theorem doRo {T:Nat->ZF}(l:zV w base (.slice asa N csa) (.slice (some ⟨gl,0,none⟩) N cld) (.slice abk R cbk) N N R x L C A B D E)(o:w.heap[g]?=some (.cells #[.slice asa N csa,.slice (some ⟨gl,0,none⟩) N cld,.slice abk R cbk] 66 (0,0)))(h:base<=w.heap.size)(f:Below w.heap.size w z)(d:z.ownsRow w.heap.size 190 4 u n (zQ T n))(q:ZT (x.sa k) v (x.ld k) 0 { x.ld k with ron:=n,ro:=T }) :
  zcR g base N R k csa cld cbk asa (some ⟨gl,0,none⟩) abk v x L C E w (.returned (int i64 0)) (z.setCell ⟨gl,k*3+1,none⟩ u):=by
 obtain⟨cs,c⟩:=zT l.ld.row gl rfl;have j:g≠gl:=fun e=>by subst e;rw[o] at c;simp at c
 have m:zA z (z.setCell ⟨gl,k*3+1,none⟩ u) (fun b=>(Value.slice (some ⟨gl,0,none⟩) N cld).ownBlock=some b):=(zA.refl z (fun b=>(Value.slice (some ⟨gl,0,none⟩) N cld).ownBlock=some b)).set (a:=⟨gl,k*3+1,none⟩) (by rfl) u
 exact⟨0,_,_,_,_,rfl,q,(l.below f).putRo (k:=k) (lim:=w.heap.size) (fun i p b e=>((l.ld.ro i p).lt b e).2) d h,m.blk (zc o f) (fun e=>j (by simpa [Value.ownBlock] using e.symm)),(zA.of_below f).trans m⟩
theorem doSe {T:Nat->zaf}(l:zV w base (.slice asa N csa) (.slice (some ⟨gl,0,none⟩) N cld) (.slice abk R cbk) N N R x L C A B D E)(o:w.heap[g]?=some (.cells #[.slice asa N csa,.slice (some ⟨gl,0,none⟩) N cld,.slice abk R cbk] 66 (0,0)))(h:base<=w.heap.size)(f:Below w.heap.size w z)(d:z.ownsRow w.heap.size 138 2 u n (zW T n))(q:ZT (x.sa k) v (x.ld k) 0 { x.ld k with sen:=n,se:=T }) :
  zcR g base N R k csa cld cbk asa (some ⟨gl,0,none⟩) abk v x L C E w (.returned (int i64 0)) (z.setCell ⟨gl,k*3+2,none⟩ u):=by
 obtain⟨cs,c⟩:=zT l.ld.row gl rfl;have j:g≠gl:=fun e=>by subst e;rw[o] at c;simp at c
 have m:zA z (z.setCell ⟨gl,k*3+2,none⟩ u) (fun b=>(Value.slice (some ⟨gl,0,none⟩) N cld).ownBlock=some b):=(zA.refl z (fun b=>(Value.slice (some ⟨gl,0,none⟩) N cld).ownBlock=some b)).set (a:=⟨gl,k*3+2,none⟩) (by rfl) u
 exact⟨0,_,_,_,_,rfl,q,(l.below f).putSe (k:=k) (lim:=w.heap.size) (fun i p b e=>((l.ld.se i p).lt b e).2) d h,m.blk (zc o f) (fun e=>j (by simpa [Value.ownBlock] using e.symm)),(zA.of_below f).trans m⟩
theorem doNo {a:Option Addr}{code:Int}(c:zV w base (.slice asa N csa) (.slice a N cld) (.slice abk R cbk) N N R x L C A B D E)(d:w.heap[g]?=some (.cells #[.slice asa N csa,.slice a N cld,.slice abk R cbk] 66 (0,0)))(b:Below w.heap.size w z)(e:ZT (x.sa k) v (x.ld k) code (x.ld k)) :
  zcR g base N R k csa cld cbk asa a abk v x L C E w (.returned (int i64 code)) z :=
 ⟨code,_,_,_,_,rfl,e,by rw[setL_same];exact c.below b,zc d b,zA.of_below b⟩
end
end
theorem Zt {w:World}{base e size n:Nat}{v:Value}{j:List Value}(h:w.ownsRow base e size v n j){b t:Nat}{cs:Array Value}(a:w.heap[b]?=some (.cells cs t (0,0)))(f:e≠t):∀ g,v.ownBlock=some g->¬ g=b:=by
 rintro g c rfl
 rcases h.2 with⟨rfl,_⟩|⟨g',i,cur,rfl,_,d,_⟩
 ·simp[Value.ownBlock] at c
 ·simp only[Value.ownBlock,Option.some.injEq] at c
  subst c;rw[d] at a;simp only[Option.some.injEq,Obj.cells.injEq] at a;exact f a.2.1
def Qc (w:World):Prop:=∀ k,k<10->w.cell? ⟨1,k,none⟩=some (.string (zP k))
theorem Qc.lt {w:World}(h:Qc w):1<w.heap.size:=World.block_lt_of_cell? w _ (h 0 (by decide))
theorem Qc.below {w w':World}(h:Qc w)(a:Below w.heap.size w w'):Qc w':=fun k b=>(a.cell (p:=⟨1,k,none⟩) h.lt).trans (h k b)
structure TSt (w a:World)(e d:Nat)(c b:Array Value)(v:Value)(L:List ByteArray):Prop where
 o:a.heap[e]?=some (.cells c 27 (0,0))
 f:a.heap[d]?=some (.cells b 69 (0,0))
 own:zcZ a w.heap.size v L
 bel:Below w.heap.size w a
theorem TSt.below {w b g:World}{f e:Nat}{d c:Array Value}{v:Value}{L:List ByteArray}(h:TSt w b f e d c v L)(a:Below b.heap.size b g):TSt w g f e d c v L :=
 ⟨zc h.o a,zc h.f a,zm a h.own,zj h.bel a⟩
theorem TSt.app {w k d:World}{c a:Nat}{g f:Array Value}{v i:Value}{L:List ByteArray}{p:ByteArray}(h:TSt w k c a g f v L)(b:k.grownBy d v.ownBlock)(m:d.ownsRow w.heap.size 9 1 i (L.length+1) (L.map Value.string++[.string p])):TSt w d c a g f i (L++[p]):=by
 refine⟨(zO b).blk h.o (fun e=>Zt h.own h.o (by decide) c e rfl),(zO b).blk h.f (fun e=>Zt h.own h.f (by decide) a e rfl),?_,h.bel.grown b h.bel.size (fun j l=>(World.ownsRow.lt h.own j l).1)⟩
 unfold zcZ;rw[List.length_append,List.map_append];exact m
theorem ziu (x:OpD)(a:Option Addr)(c:Nat)(w:World)(hx:qn x)(a3:IntsAt w a x.lgn x.lg)(hP:PowAt w)(y:Qb w)(hW:Qc w) :
  Calls Tryz.prog 17 #[.agg #[int i64 x.kind,.string x.own,int i64 x.name,.slice a x.lgn c,int i64 x.pe,int i64 x.len,int i64 x.hei,int i64 x.cl,.bool x.all,int i64 x.be,int i64 x.unt,int i64 x.now]] w fun e w'=>∃ v,e=.returned v/\zcZ w' w.heap.size v (zcv x)/\Below w.heap.size w w':=by
 have Y:=hI hx;have HP:=hI hP;have a5:=hI a3;obtain⟨k,hk⟩:∃ k:Nat,x.kind=(k:Int):=⟨x.kind.toNat,by have:=hx.1.1.1;omega⟩
 have b:Hid (x.kind.toNat=k):=by show x.kind.toNat=k;omega
 have a0:=hI hk;have c3:1<=k/\k<=9:=by have:=hx.1.1;unfold In at this;omega
 have m:Below w.heap.size w (w.alloc (.cells #[int i64 x.kind,.string x.own,int i64 x.name,.slice a x.lgn c,int i64 x.pe,int i64 x.len,int i64 x.hei,int i64 x.cl,.bool x.all,int i64 x.be,int i64 x.unt,int i64 x.now] 27)):=zr bZ _;have b0:=heap_alloc_new w (.cells #[int i64 x.kind,.string x.own,int i64 x.name,.slice a x.lgn c,int i64 x.pe,int i64 x.len,int i64 x.hei,int i64 x.cl,.bool x.all,int i64 x.be,int i64 x.unt,int i64 x.now] 27);clear hx hP a3 hk;obtain⟨Z,ji,C,D,F⟩:=info_parts Tryz.infoText;go_enter Tryz.func17,Tryz.ntmps17;go_upto_region 1 with fail;generalize w.alloc (.cells #[int i64 x.kind,.string x.own,int i64 x.name,.slice a x.lgn c,int i64 x.pe,int i64 x.len,int i64 x.hei,int i64 x.cl,.bool x.all,int i64 x.be,int i64 x.unt,int i64 x.now] 27)=W at m b0 ⊢;have t0:W.cell? ⟨0,k*7,none⟩=some (.bool (qr k)):=(m.cell (p:=⟨0,k*7,none⟩) y.lt).trans (y k (by omega)).1
 have t1:W.cell? ⟨0,k*7+1,none⟩=some (.bool (qM k)):=(m.cell (p:=⟨0,k*7+1,none⟩) y.lt).trans (y k (by omega)).2.1
 have t2:W.cell? ⟨0,k*7+2,none⟩=some (int i64 (qx k)):=(m.cell (p:=⟨0,k*7+2,none⟩) y.lt).trans (y k (by omega)).2.2.1
 have t3:W.cell? ⟨0,k*7+3,none⟩=some (.bool (qp k)):=(m.cell (p:=⟨0,k*7+3,none⟩) y.lt).trans (y k (by omega)).2.2.2.1
 have t4:W.cell? ⟨0,k*7+4,none⟩=some (.bool (qs k)):=(m.cell (p:=⟨0,k*7+4,none⟩) y.lt).trans (y k (by omega)).2.2.2.2.1
 have t5:W.cell? ⟨0,k*7+5,none⟩=some (.bool (Qg k)):=(m.cell (p:=⟨0,k*7+5,none⟩) y.lt).trans (y k (by omega)).2.2.2.2.2.1
 have t6:W.cell? ⟨0,k*7+6,none⟩=some (.bool (Zc k)):=(m.cell (p:=⟨0,k*7+6,none⟩) y.lt).trans (y k (by omega)).2.2.2.2.2.2
 have y0:W.cell? ⟨w.heap.size,0,none⟩=some (int i64 (k:Int)):=by rw[← a0.out];exact za b0 0 _ rfl
 have a6:(0:Int)<=(k:Int):=by omega
 have a7:(k:Int)<10:=by omega
 have J:=ze b0 (.cells #[.bool (qr k),.bool (qM k),int i64 (qx k),.bool (qp k),.bool (qs k),.bool (Qg k),.bool (Zc k)] 69);have I:=heap_alloc_new W (.cells #[.bool (qr k),.bool (qM k),int i64 (qx k),.bool (qp k),.bool (qs k),.bool (Qg k),.bool (Zc k)] 69);have G:=zr m (.cells #[.bool (qr k),.bool (qM k),int i64 (qx k),.bool (qp k),.bool (qs k),.bool (Qg k),.bool (Zc k)] 69);have u0:(W.alloc (.cells #[.bool (qr k),.bool (qM k),int i64 (qx k),.bool (qp k),.bool (qs k),.bool (Qg k),.bool (Zc k)] 69)).cell? ⟨1,k,none⟩=some (.string (zP k)):=hW.below G k (by omega)
 have y1:(W.alloc (.cells #[.bool (qr k),.bool (qM k),int i64 (qx k),.bool (qp k),.bool (qs k),.bool (Qg k),.bool (Zc k)] 69)).cell? ⟨w.heap.size,0,none⟩=some (int i64 (k:Int)):=by rw[← a0.out];exact za J 0 _ rfl
 clear hW y;go_upto_region 2 with fail;generalize hFx:W.heap.size=A at I ⊢;generalize W.alloc (.cells #[.bool (qr k),.bool (qM k),int i64 (qx k),.bool (qp k),.bool (qs k),.bool (Qg k),.bool (Zc k)] 69)=P at G J I u0 y1 ⊢;clear y0 t0 t1 t2 t3 t4 t5 t6 m b0 hFx;have n:Hid (TSt w (P.alloc (.cells #[.string (zP k)] 9)) w.heap.size A #[int i64 x.kind,.string x.own,int i64 x.name,.slice a x.lgn c,int i64 x.pe,int i64 x.len,int i64 x.hei,int i64 x.cl,.bool x.all,int i64 x.be,int i64 x.unt,int i64 x.now] #[.bool (qr k),.bool (qM k),int i64 (qx k),.bool (qp k),.bool (qs k),.bool (Qg k),.bool (Zc k)] (.slice (some ⟨P.heap.size,0,none⟩) 1 1) (zcJ x)) :=
  ⟨ze J _,ze I _,by unfold zcJ;rw[b.out];exact⟨rfl,.inr ⟨P.heap.size,1,#[.string (zP k)],rfl,G.size,heap_alloc_new P _,Nat.le_refl _,by unfold maxLen;omega,rfl,rfl⟩⟩,zr G _⟩
 go_upto_region 3 with fail;generalize P.alloc (.cells #[.string (zP k)] 9)=W2 at n ⊢;generalize (Value.slice (some ⟨P.heap.size,0,none⟩) 1 1)=v0 at n ⊢;clear J I G u0 y1 a6 a7;clear P W;have f1:=za n.out.f 1 _ rfl;obtain⟨q1,Q⟩:∃ q,q=qM k:=⟨_,rfl⟩;have K:=hI Q.symm;rw[← Q] at f1;clear Q;go_upto_if 15 with fail;go_cut [4] (fun v H=>Hid (TSt w H w.heap.size A #[int i64 x.kind,.string x.own,int i64 x.name,.slice a x.lgn c,int i64 x.pe,int i64 x.len,int i64 x.hei,int i64 x.cl,.bool x.all,int i64 x.be,int i64 x.unt,int i64 x.now] #[.bool (qr k),.bool (qM k),int i64 (qx k),.bool (qp k),.bool (qs k),.bool (Qg k),.bool (Zc k)] v (zbV x)))
 case first =>
  clear f1
  cases q1 with
  | false =>
   go_wp2;go_meet;have e:zbV x=zcJ x:=by
    unfold zbV opt;rw[b.out,K.out];exact List.append_nil _
   rw[e];exact n.out
  | true =>
   have e:zbV x=zcJ x++[qf x.name]:=by
    unfold zbV opt;rw[b.out,K.out]
    rfl
   have E:=hI e;clear e;obtain⟨lo,lc,rfl,_⟩:=zt n.out.own;have hL:(zcJ x).length<=1:=len_P0 x;have z2:=za n.out.o 2 _ rfl;have X:=rng1 Y.out b.out K.out;go_wp2_with fail;refine(Z3 x.name (by omega) (by omega) _ (HP.out.below n.out.bel)).mono ?_
   rintro e z ⟨rfl,d⟩;have g:Hid _:=(n.out.below d).below (zr bZ (.cells #[.string (qf x.name)] 9));clear z2 d;have l:=g.out.bel.size;go_wp2_with (first|(at_builtin;refine zz _ (by rfl) (.tmp 16) (.tmp 20) 46 (by rfl) w.heap.size 9 Z (.string ⟨#[]⟩) 1 16 Tryz.underlying46 ji C D F rfl (by decide) _ (zcJ x).length ((zcJ x).map Value.string) (by rfl) g.out.own (some ⟨z.heap.size,0,none⟩) 1 1 [.string (qf x.name)] (by rfl) (fun h=>by cases h) (by rfl) (fun ad h=>by cases h;exact World.news_of_block (heap_alloc_new z _)) (by intro u r;simp only[List.mem_cons,List.not_mem_nil,or_false] at r;subst r;rfl) (by unfold maxLen;omega) (by omega) l ?_;intro v9 w9 j i))
   go_meet;rw[E.out];exact g.out.app i j
 case rest =>
 obtain⟨v1,a9,B⟩:∃ v,v=u4/\Hid (TSt w wc w.heap.size A #[int i64 x.kind,.string x.own,int i64 x.name,.slice a x.lgn c,int i64 x.pe,int i64 x.len,int i64 x.hei,int i64 x.cl,.bool x.all,int i64 x.be,int i64 x.unt,int i64 x.now] #[.bool (qr k),.bool (qM k),int i64 (qx k),.bool (qp k),.bool (qs k),.bool (Qg k),.bool (Zc k)] v (zbV x)):=⟨_,rfl,hcut.out⟩;subst a9;clear hcut n;have f2:=za B.out.f 0 _ rfl;obtain⟨q2,R⟩:∃ q,q=qr k:=⟨_,rfl⟩;have a1:=hI R.symm;rw[← R] at f2;clear R;go_upto_if 23 with fail;go_cut [4] (fun v H=>Hid (TSt w H w.heap.size A #[int i64 x.kind,.string x.own,int i64 x.name,.slice a x.lgn c,int i64 x.pe,int i64 x.len,int i64 x.hei,int i64 x.cl,.bool x.all,int i64 x.be,int i64 x.unt,int i64 x.now] #[.bool (qr k),.bool (qM k),int i64 (qx k),.bool (qp k),.bool (qs k),.bool (Qg k),.bool (Zc k)] v (zcf x)))
 case first =>
  clear f2
  cases q2 with
  | false =>
   go_wp2;go_meet;have e:zcf x=zbV x:=by
    unfold zcf opt;rw[b.out,a1.out];exact List.append_nil _
   rw[e];exact B.out
  | true =>
   have e:zcf x=zbV x++[x.own]:=by
    unfold zcf opt;rw[b.out,a1.out]
    rfl
   have E:=hI e;clear e;obtain⟨lo,lc,rfl,_⟩:=zt B.out.own;have hL:(zbV x).length<=2:=len_P1 x;have z1:=za B.out.o 1 _ rfl;have g:Hid _:=B.out.below (zr bZ (.cells #[.string x.own] 9));have l:=g.out.bel.size;go_wp2_with (first|(at_builtin;refine zz _ (by rfl) (.tmp 24) (.tmp 27) 46 (by rfl) w.heap.size 9 Z (.string ⟨#[]⟩) 1 16 Tryz.underlying46 ji C D F rfl (by decide) _ (zbV x).length ((zbV x).map Value.string) (by rfl) g.out.own (some ⟨wc.heap.size,0,none⟩) 1 1 [.string x.own] (by rfl) (fun h=>by cases h) (by rfl) (fun ad h=>by cases h;exact World.news_of_block (heap_alloc_new wc _)) (by intro u r;simp only[List.mem_cons,List.not_mem_nil,or_false] at r;subst r;rfl) (by unfold maxLen;omega) (by omega) l ?_;intro v9 w9 j i))
   go_meet;rw[E.out];exact g.out.app i j
 case rest =>
 obtain⟨v2,b5,o⟩:∃ v,v=u4/\Hid (TSt w wc w.heap.size A #[int i64 x.kind,.string x.own,int i64 x.name,.slice a x.lgn c,int i64 x.pe,int i64 x.len,int i64 x.hei,int i64 x.cl,.bool x.all,int i64 x.be,int i64 x.unt,int i64 x.now] #[.bool (qr k),.bool (qM k),int i64 (qx k),.bool (qp k),.bool (qs k),.bool (Qg k),.bool (Zc k)] v (zcf x)):=⟨_,rfl,hcut.out⟩;subst b5;clear hcut B;have f3:=za o.out.f 2 _ rfl;have a8:decide ((0:Int)<qx k)=decide (0<qx k):=rfl;obtain⟨q3,S⟩:∃ q,q=decide (0<qx k):=⟨_,rfl⟩;have L:=hI S.symm;have c2:decide ((0:Int)<qx k)=q3:=S.symm;clear S a8;go_upto_if 31 with fail;go_cut [4] (fun v H=>Hid (TSt w H w.heap.size A #[int i64 x.kind,.string x.own,int i64 x.name,.slice a x.lgn c,int i64 x.pe,int i64 x.len,int i64 x.hei,int i64 x.cl,.bool x.all,int i64 x.be,int i64 x.unt,int i64 x.now] #[.bool (qr k),.bool (qM k),int i64 (qx k),.bool (qp k),.bool (qs k),.bool (Qg k),.bool (Zc k)] v (zbW x)))
 case first =>
  clear f3
  cases q3 with
  | false =>
   go_wp2;go_meet;have e:zbW x=zcf x:=by
    unfold zbW opt;rw[b.out,L.out];exact List.append_nil _
   rw[e];exact o.out
  | true =>
   have e:zbW x=zcf x++[ZB x.lgn x.lg]:=by
    unfold zbW opt;rw[b.out,L.out]
    rfl
   have E:=hI e;clear e;obtain⟨lo,lc,rfl,_⟩:=zt o.out.own;have hL:(zcf x).length<=3:=len_P2 x;have z3:=za o.out.o 3 _ rfl;have X:=rng3 Y.out b.out L.out;go_wp2_with fail;refine(zho a x.lgn c x.lg _ X.1 X.2 (a5.out.below o.out.bel) Y.out.2 (HP.out.below o.out.bel)).mono ?_;rintro e z ⟨rfl,d⟩;have g:Hid _:=(o.out.below d).below (zr bZ (.cells #[.string (ZB x.lgn x.lg)] 9));clear z3 d;have l:=g.out.bel.size;go_wp2_with (first|(at_builtin;refine zz _ (by rfl) (.tmp 32) (.tmp 36) 46 (by rfl) w.heap.size 9 Z (.string ⟨#[]⟩) 1 16 Tryz.underlying46 ji C D F rfl (by decide) _ (zcf x).length ((zcf x).map Value.string) (by rfl) g.out.own (some ⟨z.heap.size,0,none⟩) 1 1 [.string (ZB x.lgn x.lg)] (by rfl) (fun h=>by cases h) (by rfl) (fun ad h=>by cases h;exact World.news_of_block (heap_alloc_new z _)) (by intro u r;simp only[List.mem_cons,List.not_mem_nil,or_false] at r;subst r;rfl) (by unfold maxLen;omega) (by omega) l ?_;intro v9 w9 j i))
   go_meet;rw[E.out];exact g.out.app i j
 case rest =>
 obtain⟨v3,b6,f⟩:∃ v,v=u4/\Hid (TSt w wc w.heap.size A #[int i64 x.kind,.string x.own,int i64 x.name,.slice a x.lgn c,int i64 x.pe,int i64 x.len,int i64 x.hei,int i64 x.cl,.bool x.all,int i64 x.be,int i64 x.unt,int i64 x.now] #[.bool (qr k),.bool (qM k),int i64 (qx k),.bool (qp k),.bool (qs k),.bool (Qg k),.bool (Zc k)] v (zbW x)):=⟨_,rfl,hcut.out⟩;subst b6;clear hcut o;have f4:=za f.out.f 3 _ rfl;obtain⟨q4,T⟩:∃ q,q=qp k:=⟨_,rfl⟩;have M:=hI T.symm;rw[← T] at f4;clear T;go_upto_if 39 with fail;go_cut [4] (fun v H=>Hid (TSt w H w.heap.size A #[int i64 x.kind,.string x.own,int i64 x.name,.slice a x.lgn c,int i64 x.pe,int i64 x.len,int i64 x.hei,int i64 x.cl,.bool x.all,int i64 x.be,int i64 x.unt,int i64 x.now] #[.bool (qr k),.bool (qM k),int i64 (qx k),.bool (qp k),.bool (qs k),.bool (Qg k),.bool (Zc k)] v (zbX x)))
 case first =>
  clear f4
  cases q4 with
  | false =>
   go_wp2;go_meet;have e:zbX x=zbW x:=by
    unfold zbX opt;rw[b.out,M.out];exact List.append_nil _
   rw[e];exact f.out
  | true =>
   have e:zbX x=zbW x++[qC x.p]:=by
    unfold zbX opt;rw[b.out,M.out]
    rfl
   have E:=hI e;clear e;obtain⟨lo,lc,rfl,_⟩:=zt f.out.own;have hL:(zbW x).length<=4:=len_P3 x;have z4:=za f.out.o 4 _ rfl;have z5:=za f.out.o 5 _ rfl;have z6:=za f.out.o 6 _ rfl;have z7:=za f.out.o 7 _ rfl;have z8:=za f.out.o 8 _ rfl;have z9:=za f.out.o 9 _ rfl;have X:=rng4 Y.out b.out M.out;go_wp2_with fail;refine(zfh x.p _ X (HP.out.below f.out.bel)).mono ?_;rintro e z ⟨rfl,d⟩;have g:Hid _:=(f.out.below d).below (zr bZ (.cells #[.string (qC x.p)] 9));clear z4 z5 z6 z7 z8 z9 d;have l:=g.out.bel.size;go_wp2_with (first|(at_builtin;refine zz _ (by rfl) (.tmp 40) (.tmp 44) 46 (by rfl) w.heap.size 9 Z (.string ⟨#[]⟩) 1 16 Tryz.underlying46 ji C D F rfl (by decide) _ (zbW x).length ((zbW x).map Value.string) (by rfl) g.out.own (some ⟨z.heap.size,0,none⟩) 1 1 [.string (qC x.p)] (by rfl) (fun h=>by cases h) (by rfl) (fun ad h=>by cases h;exact World.news_of_block (heap_alloc_new z _)) (by intro u r;simp only[List.mem_cons,List.not_mem_nil,or_false] at r;subst r;rfl) (by unfold maxLen;omega) (by omega) l ?_;intro v9 w9 j i))
   go_meet;rw[E.out];exact g.out.app i j
 case rest =>
 obtain⟨v4,b7,s⟩:∃ v,v=u4/\Hid (TSt w wc w.heap.size A #[int i64 x.kind,.string x.own,int i64 x.name,.slice a x.lgn c,int i64 x.pe,int i64 x.len,int i64 x.hei,int i64 x.cl,.bool x.all,int i64 x.be,int i64 x.unt,int i64 x.now] #[.bool (qr k),.bool (qM k),int i64 (qx k),.bool (qp k),.bool (qs k),.bool (Qg k),.bool (Zc k)] v (zbX x)):=⟨_,rfl,hcut.out⟩;subst b7;clear hcut f;have f5:=za s.out.f 4 _ rfl;obtain⟨q5,U⟩:∃ q,q=qs k:=⟨_,rfl⟩;have N:=hI U.symm;rw[← U] at f5;clear U;go_upto_if 47 with fail;go_cut [4] (fun v H=>Hid (TSt w H w.heap.size A #[int i64 x.kind,.string x.own,int i64 x.name,.slice a x.lgn c,int i64 x.pe,int i64 x.len,int i64 x.hei,int i64 x.cl,.bool x.all,int i64 x.be,int i64 x.unt,int i64 x.now] #[.bool (qr k),.bool (qM k),int i64 (qx k),.bool (qp k),.bool (qs k),.bool (Qg k),.bool (Zc k)] v (zcg x)))
 case first =>
  clear f5
  cases q5 with
  | false =>
   go_wp2;go_meet;have e:zcg x=zbX x:=by
    unfold zcg opt;rw[b.out,N.out];exact List.append_nil _
   rw[e];exact s.out
  | true =>
   have e:zcg x=zbX x++[qf x.unt]:=by
    unfold zcg opt;rw[b.out,N.out]
    rfl
   have E:=hI e;clear e;obtain⟨lo,lc,rfl,_⟩:=zt s.out.own;have hL:(zbX x).length<=5:=len_P4 x;have c0:=za s.out.o 10 _ rfl;have X:=rng5 Y.out b.out N.out;go_wp2_with fail;refine(Z3 x.unt (by omega) (by omega) _ (HP.out.below s.out.bel)).mono ?_
   rintro e z ⟨rfl,d⟩;have g:Hid _:=(s.out.below d).below (zr bZ (.cells #[.string (qf x.unt)] 9));clear c0 d;have l:=g.out.bel.size;go_wp2_with (first|(at_builtin;refine zz _ (by rfl) (.tmp 48) (.tmp 52) 46 (by rfl) w.heap.size 9 Z (.string ⟨#[]⟩) 1 16 Tryz.underlying46 ji C D F rfl (by decide) _ (zbX x).length ((zbX x).map Value.string) (by rfl) g.out.own (some ⟨z.heap.size,0,none⟩) 1 1 [.string (qf x.unt)] (by rfl) (fun h=>by cases h) (by rfl) (fun ad h=>by cases h;exact World.news_of_block (heap_alloc_new z _)) (by intro u r;simp only[List.mem_cons,List.not_mem_nil,or_false] at r;subst r;rfl) (by unfold maxLen;omega) (by omega) l ?_;intro v9 w9 j i))
   go_meet;rw[E.out];exact g.out.app i j
 case rest =>
 obtain⟨v5,b8,t⟩:∃ v,v=u4/\Hid (TSt w wc w.heap.size A #[int i64 x.kind,.string x.own,int i64 x.name,.slice a x.lgn c,int i64 x.pe,int i64 x.len,int i64 x.hei,int i64 x.cl,.bool x.all,int i64 x.be,int i64 x.unt,int i64 x.now] #[.bool (qr k),.bool (qM k),int i64 (qx k),.bool (qp k),.bool (qs k),.bool (Qg k),.bool (Zc k)] v (zcg x)):=⟨_,rfl,hcut.out⟩;subst b8;clear hcut s;have f6:=za t.out.f 5 _ rfl;obtain⟨q6,V⟩:∃ q,q=Qg k:=⟨_,rfl⟩;have O:=hI V.symm;rw[← V] at f6;clear V;go_upto_if 55 with fail;go_cut [4] (fun v H=>Hid (TSt w H w.heap.size A #[int i64 x.kind,.string x.own,int i64 x.name,.slice a x.lgn c,int i64 x.pe,int i64 x.len,int i64 x.hei,int i64 x.cl,.bool x.all,int i64 x.be,int i64 x.unt,int i64 x.now] #[.bool (qr k),.bool (qM k),int i64 (qx k),.bool (qp k),.bool (qs k),.bool (Qg k),.bool (Zc k)] v (zcv x)))
 case first =>
  clear f6
  cases q6 with
  | false =>
   go_wp2;go_meet;have e:zcv x=zcg x:=by
    unfold zcv opt;rw[b.out,O.out];exact List.append_nil _
   rw[e];exact t.out
  | true =>
   have e:zcv x=zcg x++[qf x.now]:=by
    unfold zcv opt;rw[b.out,O.out]
    rfl
   have E:=hI e;clear e;obtain⟨lo,lc,rfl,_⟩:=zt t.out.own;have hL:(zcg x).length<=6:=len_P5 x;have c1:=za t.out.o 11 _ rfl;have X:=rng6 Y.out b.out O.out;go_wp2_with fail;refine(Z3 x.now (by omega) (by omega) _ (HP.out.below t.out.bel)).mono ?_
   rintro e z ⟨rfl,d⟩;have g:Hid _:=(t.out.below d).below (zr bZ (.cells #[.string (qf x.now)] 9));clear c1 d;have l:=g.out.bel.size;go_wp2_with (first|(at_builtin;refine zz _ (by rfl) (.tmp 56) (.tmp 60) 46 (by rfl) w.heap.size 9 Z (.string ⟨#[]⟩) 1 16 Tryz.underlying46 ji C D F rfl (by decide) _ (zcg x).length ((zcg x).map Value.string) (by rfl) g.out.own (some ⟨z.heap.size,0,none⟩) 1 1 [.string (qf x.now)] (by rfl) (fun h=>by cases h) (by rfl) (fun ad h=>by cases h;exact World.news_of_block (heap_alloc_new z _)) (by intro u r;simp only[List.mem_cons,List.not_mem_nil,or_false] at r;subst r;rfl) (by unfold maxLen;omega) (by omega) l ?_;intro v9 w9 j i))
   go_meet;rw[E.out];exact g.out.app i j
 case rest =>
 obtain⟨v6,b9,a2⟩:∃ v,v=u4/\Hid (TSt w wc w.heap.size A #[int i64 x.kind,.string x.own,int i64 x.name,.slice a x.lgn c,int i64 x.pe,int i64 x.len,int i64 x.hei,int i64 x.cl,.bool x.all,int i64 x.be,int i64 x.unt,int i64 x.now] #[.bool (qr k),.bool (qM k),int i64 (qx k),.bool (qp k),.bool (qs k),.bool (Qg k),.bool (Zc k)] v (zcv x)):=⟨_,rfl,hcut.out⟩;subst b9;clear hcut t;go_wp2;go_ret;exact⟨_,rfl,a2.out.own,a2.out.bel⟩
end Go.Proofs.YtfallpinmhbemaaGreatDoor

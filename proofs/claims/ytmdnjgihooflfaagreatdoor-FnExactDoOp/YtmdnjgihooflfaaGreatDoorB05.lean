/-
  OWN TEXT: LBookings, KitOff, LOffice, LOp, InI, AsksI, CarW.
-/
import Derived.Deep.RegionHeld3
import Derived.Deep.DeepCutAuto
import Derived.Test.YtmdnjgihooflfaaGreatDoorRows
import Derived.Deep.LoopGhost
import Derived.Test.YtmdnjgihooflfaaGreatDoorB04
namespace Go.Proofs.YtmdnjgihooflfaaGreatDoor
open Go.RowKit
open Go.Value (int)
open Go.IntKind (i64)
open Tryz
set_option maxHeartbeats 64000000
set_option maxRecDepth 100000
theorem zhx (y:Option Addr)(N c:Nat)(S:Nat->ql)(h:Int)(w:World)(h0:0<=h)(M:h<=1048576)(hN:N<=1000000000000000)(B:Z2 N S 1000000000000000)(D:qO w y N S) :
  Calls prog 40 #[(y,N,c),h] w λe w'=>∃ r:Int,e=.returned r/\(r=-1∨(0<=r/\r<=h/\N<=1048576/\Z2 N S 1048576))/\Below w.heap.size w w':=by
 have G:=hI B;have H:=hI D;clear B D
 by_cases hf:(N:Int)<=h
 ·have z:decide (h - (N:Int)<0)=false:=by simp;omega
  go_enter func40,ntmps40;go_wp2;go_loopw [1,5] (λl i wr=>∃ (k:Nat) (L:Int),k<=N/\i=int i64 k/\l=int i64 L/\0<=L/\L<=h/\Z2 k S 1048576/\Below w.heap.size w wr) (λ_ i _=>N - (intOf i).toNat)
  case atStart=>exact⟨0,_,Jq _,rfl,rfl,by omega,by omega,λi O=>by omega,bZ⟩
  case round =>
   obtain⟨k,L,hk,rfl,rfl,E,P,q,a⟩:=hrel;have x:=hI q;clear q z
   by_cases hlt:k<N
   ·obtain⟨C,A,hI⟩:=H
    obtain⟨b,off,rfl,g⟩:=A k hlt;have j:=hI (hI k hlt);obtain⟨m,n,f,u,v⟩:=hI k hlt;have d:b<w.heap.size:=Ja w _ (g 0 (by decide))
    have c0:wr.cell? _=some (.int _ _):=(a.cell (p:=⟨b,off+_,_⟩) d).trans (by have:=g 0 (by decide);rw[f] at this;exact this)
    have c1:wr.cell? _=some (.int _ _):=(a.cell d).trans (by have:=g 1 (by decide);rw[f] at this;exact this)
    have c2:wr.cell? _=some (.string _):=(a.cell d).trans (by have:=g 2 (by decide);rw[f] at this;exact this)
    have c3:wr.cell? _=some (.slice m _ n):=(a.cell d).trans (by have:=g 3 (by decide);rw[f] at this;exact this)
    have c4:wr.cell? _=some (.int _ _):=(a.cell d).trans (by have:=g 4 (by decide);rw[f] at this;exact this)
    have c5:wr.cell? _=some (.int _ _):=(a.cell d).trans (by have:=g 5 (by decide);rw[f] at this;exact this)
    have c6:wr.cell? _=some (.int _ _):=(a.cell d).trans (by have:=g 6 (by decide);rw[f] at this;exact this)
    have c7:wr.cell? _=some (.int _ _):=(a.cell d).trans (by have:=g 7 (by decide);rw[f] at this;exact this)
    have c8:wr.cell? _=some (.bool _):=(a.cell d).trans (by have:=g 8 (by decide);rw[f] at this;exact this)
    have c9:wr.cell? _=some (.int _ _):=(a.cell d).trans (by have:=g 9 (by decide);rw[f] at this;exact this)
    have I:wr.cell? _=some (.int _ _):=(a.cell d).trans (by have:=g 10 (by decide);rw[f] at this;exact this)
    have J:wr.cell? _=some (.int _ _):=(a.cell d).trans (by have:=g 11 (by decide);rw[f] at this;exact this)
    have K:wr.cell? _=some (.int _ _):=(a.cell d).trans (by have:=g 12 (by decide);rw[f] at this;exact this)
    have s:Hid (ql.Is wr [(S k).name,(S k).who,(S k).own,(m,(S k).lgn,n),(S k).pe,(S k).len,(S k).hei,(S k).cl,(S k).all,(S k).be,(S k).state,(S k).unt,(S k).price] (S k)):=by show ql.Is wr _ _;rw[← f];exact j.below a
    have t:=hI (G k hlt);clear A hI g f j u v;go_wp2_with fail;refine(zir _ _ L _ E (by omega) t s).mono ?_
    rintro e w2 ⟨r,rfl,hr,o⟩
    rcases hr with rfl|⟨F,r1,Q⟩
    ·go_wp2
     go_ret;exact⟨_,rfl,.inl rfl,ze a o⟩
    ·have d1:decide (r<0)=false:=by simpa using F
     go_wp2;go_roundw
     case rel =>
      refine⟨k+1,r,by omega,by go_num,rfl,F,by omega,λi O=>?_,ze a o⟩
      by_cases e:i=k
      ·subst e;exact Q
      ·exact x i (by omega)
     case measure=>simp[intOf];omega
   ·obtain rfl:k=N:=by omega
    go_wp2;go_ret;exact⟨_,rfl,.inr ⟨E,P,by omega,x⟩,a⟩
 ·have z:decide (h - (N:Int)<0)=true:=by simp;omega
  go_enter func40,ntmps40;go_wp2;go_ret;exact⟨_,rfl,.inl rfl,bZ⟩
/-- toBookingS: a copy, its lists in new memory behind its own row. -/
theorem zhy (ao:Option Addr)(N P:Nat)(S:Nat->ql)(w:World)(hN:N<=1048576)(hs:Z2 N S 1048576)(hz:qO w ao N S) :
  Calls prog 47 #[(ao,N,P)] w λe w'=>∃ g C,e=.returned (some (g,0),N,N)/\zao w' N w.heap.size w'.heap.size g N S C/\Below w.heap.size w w':=by
 obtain⟨i0,U,X,Y,Z⟩:=info_parts Tryz.infoBooking;have HS:=hI hs;have HX:=hI hz;clear hs hz;go_enter func47,ntmps47;go_wp2_with (first|(at_make;refine wpList_make_full _ rfl _ _ 36 rfl _ 150 i0 _ 13 underlying36 U X Y _ _ _ _ N rfl rfl rfl rfl (by rw[Z];omega) (by unfold maxLen;omega) (Jr _) ?_;intro w1 n o))
 go_loopw [4] (λi wr=>∃ (k:Nat) (C:_),k<=N/\i=int i64 k/\zao wr k w.heap.size wr.heap.size w.heap.size N S C/\Below w.heap.size w wr)
  (λi _=>N - (intOf i).toNat)
 case atStart=>exact⟨0,λ_=>[],Jq _,rfl,⟨(ZP n).congr (λj hj=>(zes (z:=#[_,_,_,_,_,_,_,_,_,_,_,_,_]) (sz:=13) rfl N j hj).trans (by unfold zZ;rw[zbT _ _ (by omega)])),Jr _,(ZP n).lt,λi U=>by omega⟩,bZ.grown o (Jr _) (by simp)⟩
 case round =>
  obtain⟨k,C,hk,rfl,q,d⟩:=hrel;clear n o
  by_cases hlt:k<N
  ·obtain⟨E,hE,hI⟩:=HX
   obtain⟨b,off,rfl,m⟩:=hE k hlt;have y:=hI (hI k hlt);obtain⟨A,B,l,V,a3⟩:=hI k hlt;have f:b<w.heap.size:=Ja w _ (m 0 (by decide))
   have c0:wr.cell? _=some (.int _ _):=(d.cell (p:=⟨b,off+_,_⟩) f).trans (by have:=m 0 (by decide);rw[l] at this;exact this)
   have c1:wr.cell? _=some (.int _ _):=(d.cell f).trans (by have:=m 1 (by decide);rw[l] at this;exact this)
   have c2:wr.cell? _=some (.string _):=(d.cell f).trans (by have:=m 2 (by decide);rw[l] at this;exact this)
   have c3:wr.cell? _=some (.slice A _ B):=(d.cell f).trans (by have:=m 3 (by decide);rw[l] at this;exact this)
   have c4:wr.cell? _=some (.int _ _):=(d.cell f).trans (by have:=m 4 (by decide);rw[l] at this;exact this)
   have c5:wr.cell? _=some (.int _ _):=(d.cell f).trans (by have:=m 5 (by decide);rw[l] at this;exact this)
   have c6:wr.cell? _=some (.int _ _):=(d.cell f).trans (by have:=m 6 (by decide);rw[l] at this;exact this)
   have c7:wr.cell? _=some (.int _ _):=(d.cell f).trans (by have:=m 7 (by decide);rw[l] at this;exact this)
   have c8:wr.cell? _=some (.bool _):=(d.cell f).trans (by have:=m 8 (by decide);rw[l] at this;exact this)
   have c9:wr.cell? _=some (.int _ _):=(d.cell f).trans (by have:=m 9 (by decide);rw[l] at this;exact this)
   have L:wr.cell? _=some (.int _ _):=(d.cell f).trans (by have:=m 10 (by decide);rw[l] at this;exact this)
   have M:wr.cell? _=some (.int _ _):=(d.cell f).trans (by have:=m 11 (by decide);rw[l] at this;exact this)
   have O:wr.cell? _=some (.int _ _):=(d.cell f).trans (by have:=m 12 (by decide);rw[l] at this;exact this)
   have J:Hid (ql.Is wr [(S k).name,(S k).who,(S k).own,(A,(S k).lgn,B),(S k).pe,(S k).len,(S k).hei,(S k).cl,(S k).all,(S k).be,(S k).state,(S k).unt,(S k).price] (S k)):=by show ql.Is wr _ _;rw[← l];exact y.below d
   have K:=hI (HS k hlt);have r:Hid _:=q;clear hE hI m l y q V a3;go_wp2_with fail;refine(zis _ _ _ K J).mono ?_;rintro e H ⟨cs',rfl,F,u⟩;have I:=hI F;obtain⟨v,rfl,_⟩:=F;unfold ZY;have c:=(r.below u).wide (Jr _) u.size;have a4:=r.ghi;clear c0 c1 c2 c3 c4 c5 c6 c7 c8 c9 L M O;have o0:=c.row.cell (i:=k*13) (by omega)
   have f0:=c.row.frozen (k*13);have o1:=c.row.cell (i:=k*13+1) (by omega)
   have f1:=c.row.frozen (k*13+1);have o2:=c.row.cell (i:=k*13+2) (by omega)
   have f2:=c.row.frozen (k*13+2);have o3:=c.row.cell (i:=k*13+3) (by omega)
   have f3:=c.row.frozen (k*13+3);have o4:=c.row.cell (i:=k*13+4) (by omega)
   have f4:=c.row.frozen (k*13+4);have o5:=c.row.cell (i:=k*13+5) (by omega)
   have f5:=c.row.frozen (k*13+5);have o6:=c.row.cell (i:=k*13+6) (by omega)
   have f6:=c.row.frozen (k*13+6);have o7:=c.row.cell (i:=k*13+7) (by omega)
   have f7:=c.row.frozen (k*13+7);have o8:=c.row.cell (i:=k*13+8) (by omega)
   have f8:=c.row.frozen (k*13+8);have o9:=c.row.cell (i:=k*13+9) (by omega)
   have f9:=c.row.frozen (k*13+9);have a0:=c.row.cell (i:=k*13+10) (by omega)
   have Q:=c.row.frozen (k*13+10);have a1:=c.row.cell (i:=k*13+11) (by omega)
   have R:=c.row.frozen (k*13+11);have a2:=c.row.cell (i:=k*13+12) (by omega)
   have T:=c.row.frozen (k*13+12);have t:=hI c;clear c;go_wp2;go_roundw
   case rel =>
    clear o0 f0 o1 f1 o2 f2 o3 f3 o4 f4 o5 f5 o6 f6 o7 f7 o8 f8 o9 f9 a0 Q a1 R a2 T;obtain⟨W,D⟩:∃ W,W=qH H w.heap.size (k*13) [(S k).name,(S k).who,(S k).own,(some (v,0),(S k).lgn,(S k).lgn),(S k).pe,(S k).len,(S k).hei,(S k).cl,(S k).all,(S k).be,(S k).state,(S k).unt,(S k).price]:=⟨_,rfl⟩;have hC:W=(((((((((((((H.setCell (w.heap.size,k*13) (S k).name).setCell (w.heap.size,k*13+1) (S k).who).setCell (w.heap.size,k*13+2) (S k).own).setCell (w.heap.size,k*13+3) (some (v,0),(S k).lgn,(S k).lgn)).setCell (w.heap.size,k*13+4) (S k).pe).setCell (w.heap.size,k*13+5) (S k).len).setCell (w.heap.size,k*13+6) (S k).hei).setCell (w.heap.size,k*13+7) (S k).cl).setCell (w.heap.size,k*13+8) (S k).all).setCell (w.heap.size,k*13+9) (S k).be).setCell (w.heap.size,k*13+10) (S k).state).setCell (w.heap.size,k*13+11) (S k).unt).setCell (w.heap.size,k*13+12) (S k).price):=by rw[D];rfl
    rw[← hC];clear hC;have G:zx H W (λx=>x=w.heap.size):=by rw[D];exact zdf (S:=λx=>x=w.heap.size) rfl _ _ _ (zx.refl _ _)
    have s:W.heap.size=H.heap.size:=by rw[D,zdg]
    refine⟨k+1,λi=>if i=k then [(S k).name,(S k).who,(S k).own,(some (v,0),(S k).lgn,(S k).lgn),(S k).pe,(S k).len,(S k).hei,(S k).cl,(S k).all,(S k).be,(S k).state,(S k).unt,(S k).price] else C i,by omega,by go_num,⟨?_,Jr _,by rw[s];exact t.ghi,λi U=>?_⟩,by rw[D];exact qZ (Jr _) _ _ _ (ze d u)⟩
    ·rw[D]
     refine rec_set t.row rfl (by decide) (λi e=>?_) ?_
     ·rw[QB _ _ _ _ e];unfold zbJ;by_cases h:i<k
      ·rw[Jf h,Jf h];exact Je e
      ·rw[Je h,Je h]
     ·rw[qr _ _ (Nat.lt_succ_self k)];exact Jf rfl
    ·rw[s]
     by_cases e:i=k
     ·subst e
      rw[Jf rfl];exact(I.wide (by omega) (Jr _)).kept G (λb h=>by QW;omega)
     ·rw[Je e]
      exact(t.each i (by omega)).kept G (λb h=>by QW;omega)
   case measure=>simp[intOf];omega
  ·obtain rfl:k=N:=by omega
   go_wp2;go_ret;exact⟨_,C,rfl,q,d⟩
/-- eqBookingS at two lists that are one. -/
theorem zgn (K bo:Option Addr)(N c1 c2:Nat)(S:Nat->ql)(w:World)(hN:N<=1048576)(Q:Z2 N S 1048576)(R:qO w K N S)(T:qO w bo N S) :
  Calls prog 59 #[(K,N,c1),(bo,N,c2)] w λe w'=>e=.returned (.bool true)/\Below w.heap.size w w':=by
 have U:=hI Q;have V:=hI R;have W:=hI T;clear Q R T;go_enter func59,ntmps59;go_wp2;go_loopw [5] (λi wr=>∃ k,k<=N/\i=int i64 k/\Below w.heap.size w wr) (λi _=>N - (intOf i).toNat)
 case atStart=>exact⟨0,Jq _,rfl,bZ⟩
 case round =>
  obtain⟨k,hk,rfl,a⟩:=hrel
  by_cases hlt:k<N
  ·obtain⟨C,O,hI⟩:=V
   obtain⟨D,P,x⟩:=W;obtain⟨b,off,rfl,f⟩:=O k hlt;obtain⟨L,q,rfl,h⟩:=P k hlt;have m:=hI (hI k hlt);have n:=hI (x k hlt);obtain⟨t,u,c,z,A⟩:=hI k hlt;obtain⟨J,M,d,o,r⟩:=x k hlt;have j:b<w.heap.size:=Ja w _ (f 0 (by decide))
   have l:L<w.heap.size:=Ja w _ (h 0 (by decide))
   have i1:(0:Int)<=(k:Int):=by omega
   have i2:(k:Int)<(N:Int):=by omega
   have z0:∀ g:zn wr,g.val.cell? _=some (.int _ _):=λg=>((a.trans (g.bel.mono a.size)).cell (p:=⟨b,off+_,_⟩) j).trans (by have:=f 0 (by decide);rw[c] at this;exact this)
   have Z:∀ g:zn wr,g.val.cell? _=some (.int _ _):=λg=>((a.trans (g.bel.mono a.size)).cell (p:=⟨L,q+_,_⟩) l).trans (by have:=h 0 (by decide);rw[d] at this;exact this)
   have z1:∀ g:zn wr,g.val.cell? _=some (.int _ _):=λg=>((a.trans (g.bel.mono a.size)).cell j).trans (by have:=f 1 (by decide);rw[c] at this;exact this)
   have y1:∀ g:zn wr,g.val.cell? _=some (.int _ _):=λg=>((a.trans (g.bel.mono a.size)).cell l).trans (by have:=h 1 (by decide);rw[d] at this;exact this)
   have z2:∀ g:zn wr,g.val.cell? _=some (.string _):=λg=>((a.trans (g.bel.mono a.size)).cell j).trans (by have:=f 2 (by decide);rw[c] at this;exact this)
   have y2:∀ g:zn wr,g.val.cell? _=some (.string _):=λg=>((a.trans (g.bel.mono a.size)).cell l).trans (by have:=h 2 (by decide);rw[d] at this;exact this)
   have z3:∀ g:zn wr,g.val.cell? _=some (.slice t _ u):=λg=>((a.trans (g.bel.mono a.size)).cell j).trans (by have:=f 3 (by decide);rw[c] at this;exact this)
   have y3:∀ g:zn wr,g.val.cell? _=some (.slice _ _ _):=λg=>((a.trans (g.bel.mono a.size)).cell l).trans (by have:=h 3 (by decide);rw[d] at this;exact this)
   have z4:∀ g:zn wr,g.val.cell? _=some (.int _ _):=λg=>((a.trans (g.bel.mono a.size)).cell j).trans (by have:=f 4 (by decide);rw[c] at this;exact this)
   have y4:∀ g:zn wr,g.val.cell? _=some (.int _ _):=λg=>((a.trans (g.bel.mono a.size)).cell l).trans (by have:=h 4 (by decide);rw[d] at this;exact this)
   have z5:∀ g:zn wr,g.val.cell? _=some (.int _ _):=λg=>((a.trans (g.bel.mono a.size)).cell j).trans (by have:=f 5 (by decide);rw[c] at this;exact this)
   have y5:∀ g:zn wr,g.val.cell? _=some (.int _ _):=λg=>((a.trans (g.bel.mono a.size)).cell l).trans (by have:=h 5 (by decide);rw[d] at this;exact this)
   have z6:∀ g:zn wr,g.val.cell? _=some (.int _ _):=λg=>((a.trans (g.bel.mono a.size)).cell j).trans (by have:=f 6 (by decide);rw[c] at this;exact this)
   have y6:∀ g:zn wr,g.val.cell? _=some (.int _ _):=λg=>((a.trans (g.bel.mono a.size)).cell l).trans (by have:=h 6 (by decide);rw[d] at this;exact this)
   have z7:∀ g:zn wr,g.val.cell? _=some (.int _ _):=λg=>((a.trans (g.bel.mono a.size)).cell j).trans (by have:=f 7 (by decide);rw[c] at this;exact this)
   have y7:∀ g:zn wr,g.val.cell? _=some (.int _ _):=λg=>((a.trans (g.bel.mono a.size)).cell l).trans (by have:=h 7 (by decide);rw[d] at this;exact this)
   have z8:∀ g:zn wr,g.val.cell? _=some (.bool _):=λg=>((a.trans (g.bel.mono a.size)).cell j).trans (by have:=f 8 (by decide);rw[c] at this;exact this)
   have y8:∀ g:zn wr,g.val.cell? _=some (.bool _):=λg=>((a.trans (g.bel.mono a.size)).cell l).trans (by have:=h 8 (by decide);rw[d] at this;exact this)
   have z9:∀ g:zn wr,g.val.cell? _=some (.int _ _):=λg=>((a.trans (g.bel.mono a.size)).cell j).trans (by have:=f 9 (by decide);rw[c] at this;exact this)
   have y9:∀ g:zn wr,g.val.cell? _=some (.int _ _):=λg=>((a.trans (g.bel.mono a.size)).cell l).trans (by have:=h 9 (by decide);rw[d] at this;exact this)
   have G:∀ g:zn wr,g.val.cell? _=some (.int _ _):=λg=>((a.trans (g.bel.mono a.size)).cell j).trans (by have:=f 10 (by decide);rw[c] at this;exact this)
   have B:∀ g:zn wr,g.val.cell? _=some (.int _ _):=λg=>((a.trans (g.bel.mono a.size)).cell l).trans (by have:=h 10 (by decide);rw[d] at this;exact this)
   have H:∀ g:zn wr,g.val.cell? _=some (.int _ _):=λg=>((a.trans (g.bel.mono a.size)).cell j).trans (by have:=f 11 (by decide);rw[c] at this;exact this)
   have E:∀ g:zn wr,g.val.cell? _=some (.int _ _):=λg=>((a.trans (g.bel.mono a.size)).cell l).trans (by have:=h 11 (by decide);rw[d] at this;exact this)
   have I:∀ g:zn wr,g.val.cell? _=some (.int _ _):=λg=>((a.trans (g.bel.mono a.size)).cell j).trans (by have:=f 12 (by decide);rw[c] at this;exact this)
   have F:∀ g:zn wr,g.val.cell? _=some (.int _ _):=λg=>((a.trans (g.bel.mono a.size)).cell l).trans (by have:=h 12 (by decide);rw[d] at this;exact this)
   have X:Hid (∀ g:zn wr,ql.Is _ [_,_,_,_,_,_,_,_,_,_,_,_,_] _):=λg=>by rw[← c];exact(m.below a).below g.bel
   have Y:Hid (∀ g:zn wr,ql.Is _ [_,_,_,_,_,_,_,_,_,_,_,_,_] _):=λg=>by rw[← d];exact(n.below a).below g.bel
   have s:=hI (U k hlt);clear O hI P x f h c d m n z A o r;go_upto_region 6 with fail;refine zh (by kernel_rfl) (by kernel_rfl) ?_
   repeat(first|go_big_quiet_skip|(go_big_quiet_want;go_big_quiet_op;first|go_big_quiet_on|(apply Jg;refine⟨λg=>?_,?_⟩;(focus(first|(go_at_call 125;refine zf (v:=.bool true) ((zhw _ _ _ _ s (X g) (Y g)).mono ?_);rintro e w2 ⟨rfl,y⟩;exact⟨rfl,y⟩)));go_big_quiet_on)))
   refine Jl ?_;rintro _ ⟨g,rfl⟩;clear z0 Z z1 y1 z2 y2 z3 y3 z4 y4 z5 y5 z6 y6 z7 y7 z8 y8 z9 y9 G B H E I F;go_wp2;go_roundw
   case rel=>exact⟨k+1,by omega,by go_num,ze a g.bel⟩
   case measure=>simp[intOf];omega
  ·go_wp2
   go_ret;exact⟨rfl,a⟩
section
open Go.RowKit
variable{w w':World}{lo a g N:Nat}{cs:List Value}{x:Off}
structure zbB (w:World)(lo a g N:Nat)(S:Nat->Zj)(l c:Nat->Nat):Prop where
 made:zak w 140 223 231 N lo g N S l c
 gh:g<a
 lh:∀ i,i<N->l i<a/\c i<a
theorem zbB.below {S:Nat->Zj}{l c:Nat->Nat}(r:zbB w lo a g N S l c)(b:Below w.heap.size w w'):zbB w' lo a g N S l c:=⟨r.made.below b,r.gh,r.lh⟩
theorem zbB.wide {lo' hi':Nat}{S:Nat->Zj}{l c:Nat->Nat}(r:zbB w lo a g N S l c)(h1:lo'<=lo)(h2:a<=hi'):zbB w lo' hi' g N S l c :=
 ⟨⟨r.made.row,Jp h1 r.made.lo,r.made.lanes,r.made.cabins,r.made.rise⟩,Nat.lt_of_lt_of_le r.gh h2,λi a=>⟨Nat.lt_of_lt_of_le (r.lh i a).1 h2,Nat.lt_of_lt_of_le (r.lh i a).2 h2⟩⟩
theorem zbB.kept {S:Nat->Zj}{l c:Nat->Nat}{T:Nat->Prop}(r:zbB w lo a g N S l c)(e:zx w w' T)(d:∀ b,T b->b<lo∨a<=b):zbB w' lo a g N S l c:=by
 have h0:=r.made.lo;have h1:=r.gh;refine⟨⟨r.made.row.of_block (e.block _ r.made.row.lt (λs=>by have:=d _ s;omega)),r.made.lo,λi a=>⟨(r.made.lanes i a).1,?_⟩,λi a=>⟨(r.made.cabins i a).1,?_⟩,r.made.rise⟩,r.gh,r.lh⟩
 ·have h2:=(r.made.lanes i a).1
  have h3:=(r.lh i a).1;exact(r.made.lanes i a).2.of_block (e.block _ (r.made.lanes i a).2.lt (λs=>by have:=d _ s;omega))
 ·have h2:=(r.made.lanes i a).1
  have h4:=(r.made.cabins i a).1;have h3:=(r.lh i a).2;exact(r.made.cabins i a).2.of_block (e.block _ (r.made.cabins i a).2.lt (λs=>by have:=d _ s;omega))
theorem zak.high {S:Nat->Zj}{l c:Nat->Nat}(r:zak w 140 223 231 N lo g N S l c):zbB w lo w.heap.size g N S l c :=
 ⟨r,r.row.lt,λi a=>⟨(r.lanes i a).2.lt,(r.cabins i a).2.lt⟩⟩
structure Off where
 san:Nat
 sa:Nat->Zj
 ldn:Nat
 ld:Nat->zY
 bkn:Nat
 bk:Nat->ql
def Off.Is (w:World)(cs:List Value)(x:Off):Prop :=
 ∃ asa csa ald cld abk cbk,cs=[.slice asa x.san csa,.slice ald x.ldn cld,.slice abk x.bkn cbk]/\qB w asa x.san x.sa/\qj asa x.san csa/\ZG w ald x.ldn x.ld/\qj ald x.ldn cld/\qO w abk x.bkn x.bk/\qj abk x.bkn cbk
theorem Off.Is.below (h:Off.Is w cs x)(i:Below w.heap.size w w'):Off.Is w' cs x:=by
 obtain⟨c,g,b,f,a,d,e,h1,j,h2,k,h3,l⟩:=h;exact⟨c,g,b,f,a,d,e,h1.below i,j,h2.below i,k,h3.below i,l⟩
def Off.Short (x:Off)(B:Nat):Prop:=(x.san<=B/\QL x.san x.sa B)/\(x.ldn<=B/\ZA x.ldn x.ld B)/\(x.bkn<=B/\Z2 x.bkn x.bk B)
def Off.In (w:World)(lo a:Nat)(cs:List Value)(x:Off):Prop :=
 ∃ m1 m2 gsa l c gld C gbk E,cs=[ZY gsa x.san,ZY gld x.ldn,ZY gbk x.bkn]/\(lo<=m1/\m1<=m2/\m2<=a)/\zbB w lo m1 gsa x.san x.sa l c/\zan w x.ldn m1 m2 gld x.ldn x.ld C/\zao w x.bkn m2 a gbk x.bkn x.bk E
theorem Off.In.below (h:Off.In w lo g cs x)(f:Below w.heap.size w w'):Off.In w' lo g cs x:=by
 obtain⟨j,k,d,l,c,b,C,a,E,e,i,h1,h2,h3⟩:=h;exact⟨j,k,d,l,c,b,C,a,E,e,i,h1.below f,h2.below f,h3.below f⟩
theorem Off.In.is (h:Off.In w lo a cs x)(j:Off.Short x 1048576):Off.Is w cs x:=by
 obtain⟨m1,m2,g,l,c,f,C,d,E,e,hm,h1,h2,h3⟩:=h;obtain⟨⟨n1,b⟩,⟨n2,k⟩,⟨n3,m⟩⟩:=j;exact⟨_,_,_,_,_,_,e,h1.made.sails (λi a=>(b i a).2.2.1) (λi a=>(b i a).2.2.2),⟨Jr _,by omega,λh=>by cases h⟩,h2.at k,⟨Jr _,by omega,λh=>by cases h⟩,h3.at m,⟨Jr _,by omega,λh=>by cases h⟩⟩
end
section
open Go.RowKit
variable{w:World}{g t:Nat}{u0 u1 u2:Value}
theorem zjR (cs:List Value)(x:Off)(w:World)(D:Off.Short x 1000000000000000)(h:Off.Is w cs x) :
  Calls prog 6 #[.agg cs.toArray,int i64 1048576] w λe w'=>∃ r:Int,e=.returned r/\(r=-1∨(0<=r/\r<=1048576/\Off.Short x 1048576))/\Below w.heap.size w w':=by
 obtain⟨j,m,i,l,g,k,rfl,h1,L,h2,M,h3,N⟩:=h;obtain⟨⟨A,O⟩,⟨B,P⟩,⟨C,Q⟩⟩:=D;have b:Below _ w (w.alloc (.cells #[(j,x.san,m),(i,x.ldn,l),(g,x.bkn,k)] 26)):=zk bZ _;have n:=zoP b;clear L M N;go_enter func6,ntmps6;go_wp2_with fail;refine(zin j _ m _ _ A O (h1.below b)).mono ?_;rintro e v1 ⟨y,rfl,s,a⟩;have f:=zb n a;have c:=ze b a;clear n b a
 rcases s with rfl|⟨v,F,G,H⟩
 ·go_wp2
  go_ret;exact⟨_,rfl,.inl rfl,c⟩
 ·have d1:decide (y<0)=false:=by simpa using v
  have p:=za f 1 _ rfl;go_wp2_with fail;refine(zlA i _ l _ y _ v F B P (h2.below c)).mono ?_;rintro e v2 ⟨z,rfl,t,a⟩;have q:=zb f a;have d:=ze c a;clear f c a p
  rcases t with rfl|⟨p,q2,I,J⟩
  ·go_wp2
   go_ret;exact⟨_,rfl,.inl rfl,d⟩
  ·have d2:decide (z<0)=false:=by simpa using p
   have E:=za q 2 _ rfl;go_wp2_with fail;refine(zhx g _ k _ z _ p (by omega) C Q (h3.below d)).mono ?_
   rintro e v3 ⟨K,rfl,u,a⟩;have o:=ze d a;clear d a E
   rcases u with rfl|⟨u1,u2,u3,u4⟩
   ·go_wp2
    go_ret;exact⟨_,rfl,.inl rfl,o⟩
   ·have d3:decide (K<0)=false:=by simpa using u1
    go_wp2;go_ret;exact⟨_,rfl,.inr ⟨u1,by omega,⟨G,H⟩,⟨I,J⟩,⟨u3,u4⟩⟩,o⟩
theorem zjS {v0:Value}(h:w.heap[g]?=some (.cells #[u0,u1,u2] t (0,0))):(w.setCell (g,0) v0).heap[g]?=some (.cells #[v0,u1,u2] t (0,0)):=by
 simpa using zm h 0 v0
theorem zjT {v1:Value}(h:w.heap[g]?=some (.cells #[u0,u1,u2] t (0,0))):(w.setCell (g,1) v1).heap[g]?=some (.cells #[u0,v1,u2] t (0,0)):=by
 simpa using zm h 1 v1
theorem zjU {v2:Value}(h:w.heap[g]?=some (.cells #[u0,u1,u2] t (0,0))):(w.setCell (g,2) v2).heap[g]?=some (.cells #[u0,u1,v2] t (0,0)):=by
 simpa using zm h 2 v2
theorem zit (w:World)(g i:Nat)(v:Value):zx w (w.setCell (g,i) v) (λb=>b=g):=(zx.refl w (λb=>b=g)).set (a:=(g,i)) rfl v
theorem zdi (cs:List Value)(x:Off)(w:World)(hs:Off.Short x 1048576)(h:Off.Is w cs x) :
  Calls prog 9 #[.agg cs.toArray] w λe w'=>∃ cs',e=.returned (.agg cs'.toArray)/\Off.In w' w.heap.size w'.heap.size cs' x/\Below w.heap.size w w':=by
 obtain⟨B,H,A,G,z,D,rfl,h1,s1,h2,s2,h3,s3⟩:=h;obtain⟨⟨b1,t1⟩,⟨b2,t2⟩,⟨b3,t3⟩⟩:=hs;clear s1 s2 s3;go_enter func9,ntmps9;go_wp2_with fail;obtain⟨P,n⟩:∃ W,W=(((w.alloc (.cells #[(B,x.san,H),(A,x.ldn,G),(z,x.bkn,D)] 26)).alloc (.cells #[True,True,True] 38)).alloc (.cells #[True,True,True] 38)):=⟨_,rfl⟩;have Q:Below w.heap.size w P:=by rw[n];exact zk (zk (zk bZ _) _) _
 have A0:P.heap[w.heap.size]?=some (.cells #[(B,x.san,H),(A,x.ldn,G),(z,x.bkn,D)] 26 (0,0)):=by rw[n];exact zd (zd (Jb w _) _) _
 have R0:P.heap[w.heap.size+1]?=some (.cells #[True,True,True] 38 (0,0)):=by rw[n];exact zd (by simpa using Jb (w.alloc _) _) _
 have T:P.heap[w.heap.size+1+1]?=some (.cells #[True,True,True] 38 (0,0)):=by rw[n];simpa using Jb ((w.alloc _).alloc _) _
 rw[← n];clear n;have gO:=zM T;refine(zhv B _ H _ _ b1 t1 (h1.below Q)).mono ?_;rintro e v0 ⟨l,ls,cc,rfl,m0,d⟩;have j:=m0.high;have p:=zb A0 d;have r:=zb R0 d;have k:=zb T d;have s:=ze Q d;have Y:=d.size;clear A0 R0 T Q d m0;have U:=za p 1 _ rfl;have I:=za k 0 _ rfl;have N:=zg k 0;go_wp2_with fail;clear N I U;obtain⟨K,g⟩:∃ W,W=v0.setCell (w.heap.size+1+1,0) (some (l,0),x.san,x.san):=⟨_,rfl⟩;have f:zx v0 K (λb=>b=w.heap.size+1+1):=by rw[g];exact zit _ _ _ _
 have A1:=f.blk p (by omega)
 have R1:=f.blk r (by omega)
 have O1:K.heap[w.heap.size+1+1]?=some (.cells #[(some (l,0),x.san,x.san),True,True] 38 (0,0)):=by rw[g];exact zjS k
 have R:Below w.heap.size w K:=by rw[g];exact s.setCell (by show w.heap.size<=_+1;omega) _
 have u:K.heap.size=v0.heap.size:=by rw[g,World.size_setCell]
 have c:=j.kept f (λb h=>by QW;omega)
 rw[← g];rw[← u] at c Y;clear g f p r k s j;have j:=c;clear c;clear u;refine(zlB A _ G _ _ b2 t2 (h2.below R)).mono ?_;rintro e v1 ⟨m,C,rfl,q,d⟩;have p:=zb A1 d;have r:=zb R1 d;have k:=zb O1 d;have s:=ze R d;have Z:=d.size;have c:=j.below d;clear A1 R1 O1 R d j;have j:=c;clear c;have V:=za p 2 _ rfl;have J:=za k 1 _ rfl;have N:=zg k 1;go_wp2_with fail;clear N J V;obtain⟨L,g⟩:∃ W,W=v1.setCell (w.heap.size+1+1,1) (some (m,0),x.ldn,x.ldn):=⟨_,rfl⟩;have f:zx v1 L (λb=>b=w.heap.size+1+1):=by rw[g];exact zit _ _ _ _
 have A2:=f.blk p (by omega)
 have R2:=f.blk r (by omega)
 have O2:L.heap[w.heap.size+1+1]?=some (.cells #[(some (l,0),x.san,x.san),(some (m,0),x.ldn,x.ldn),True] 38 (0,0)):=by rw[g];exact zjT k
 have S:Below w.heap.size w L:=by rw[g];exact s.setCell (by show w.heap.size<=_+1;omega) _
 have u:L.heap.size=v1.heap.size:=by rw[g,World.size_setCell]
 have c:=j.kept f (λb h=>by QW;omega)
 have i:=q.kept f (λb h=>by QW;omega)
 rw[← g];rw[← u] at i Z;clear g f p r k s j q;have j:=c;clear c;have q:=i;clear i;clear u;refine(zhy z _ D _ _ b3 t3 (h3.below S)).mono ?_;rintro e v2 ⟨o,E,rfl,O,d⟩;have p:=zb A2 d;have r:=zb R2 d;have k:=zb O2 d;have s:=ze S d;have a0:=d.size;have c:=j.below d;have i:=q.below d;clear A2 R2 O2 S d j q;have j:=c;clear c;have q:=i;clear i;have X:=za k 2 _ rfl;have I:=za k 0 _ rfl;have J:=za k 1 _ rfl;have N:=zg k 2;obtain⟨y0,y1,y2⟩:=ce3 r;obtain⟨z0,z1,z2⟩:=fe3 r;go_wp2;clear N I J X z0 y0 z1 y1 z2 y2;obtain⟨t,g⟩:∃ W,W=v2.setCell (w.heap.size+1+1,2) (some (o,0),x.bkn,x.bkn):=⟨_,rfl⟩;have f:zx v2 t (λb=>b=w.heap.size+1+1):=by rw[g];exact zit _ _ _ _
 have A3:=f.blk p (by omega)
 have R3:=f.blk r (by omega)
 have O3:t.heap[w.heap.size+1+1]?=some (.cells #[(some (l,0),x.san,x.san),(some (m,0),x.ldn,x.ldn),(some (o,0),x.bkn,x.bkn)] 38 (0,0)):=by rw[g];exact zjU k
 have H3:Below w.heap.size w t:=by rw[g];exact s.setCell (by show w.heap.size<=_+1;omega) _
 have u:t.heap.size=v2.heap.size:=by rw[g,World.size_setCell]
 have c:=j.kept f (λb h=>by QW;omega)
 have i:=q.kept f (λb h=>by QW;omega)
 have y:=O.kept f (λb h=>by QW;omega)
 rw[← g];rw[← u] at y a0;clear g f p r k s j q O;have j:=c;clear c;have q:=i;clear i;have O:=y;clear y;obtain⟨F,M⟩:∃ F,F=((t.setCell (w.heap.size+1,0) (some (l,0),x.san,x.san)).setCell (w.heap.size+1,1) (some (m,0),x.ldn,x.ldn)).setCell (w.heap.size+1,2) (some (o,0),x.bkn,x.bkn):=⟨_,rfl⟩;have f:zx t F (λb=>b=w.heap.size+1):=by rw[M];exact(((zx.refl t (λb=>b=_)).set (a:=⟨_,0,_⟩) rfl _).set (a:=⟨_,1,_⟩) rfl _).set (a:=⟨_,2,_⟩) rfl _
 have RF:F.heap[w.heap.size+1]?=some (.cells #[(some (l,0),x.san,x.san),(some (m,0),x.ldn,x.ldn),(some (o,0),x.bkn,x.bkn)] 38 (0,0)):=by rw[M];exact zjU (zjT (zjS R3))
 have HF:Below w.heap.size w F:=by rw[M];exact((H3.setCell (by show w.heap.size<=w.heap.size+1;omega) _).setCell (by show w.heap.size<=w.heap.size+1;omega) _).setCell (by show w.heap.size<=w.heap.size+1;omega) _
 have u:F.heap.size=t.heap.size:=by rw[M,World.size_setCell,World.size_setCell,World.size_setCell]
 rw[← M];clear M;obtain⟨z0,z1,z2⟩:=ce3 RF;have N0:=(j.kept f (λb h=>by QW;omega)).wide (lo':=w.heap.size) (hi':=K.heap.size) (by omega) (by omega)
 have N1:=(q.kept f (λb h=>by QW;omega)).wide (lo':=K.heap.size) (hi':=L.heap.size) (by omega) (by omega)
 have N2:=(O.kept f (λb h=>by QW;omega)).wide (lo':=L.heap.size) (hi':=F.heap.size) (by omega) (by omega)
 exact Jj (v:=.agg #[.slice _ _ _,.slice _ _ _,.slice _ _ _]) (by simp[results,results9,go_sem,z0,z1,z2]) rfl ⟨_,rfl,⟨_,_,l,ls,cc,m,C,o,E,rfl,⟨by omega,by omega,by omega⟩,N0,N1,N2⟩,HF⟩
theorem zbp (cs D:List Value)(x:Off)(w:World)(J:Off.Short x 1048576)(h:Off.Is w cs x)(I:Off.Is w D x) :
  Calls prog 12 #[.agg cs.toArray,.agg D.toArray] w λe w'=>e=.returned (.bool true)/\Below w.heap.size w w':=by
 obtain⟨i,o,g,n,d,l,rfl,h1,N,h2,O,h3,P⟩:=h;obtain⟨j,p,f,m,c,k,rfl,K,u1,L,u2,M,u3⟩:=I;obtain⟨⟨F,Q⟩,⟨G,R⟩,⟨H,S⟩⟩:=J;clear N O P u1 u2 u3;have b:Below _ w ((w.alloc (.cells #[(i,x.san,o),(g,x.ldn,n),(d,x.bkn,l)] 38)).alloc (.cells #[(j,x.san,p),(f,x.ldn,m),(c,x.bkn,k)] 38)):=zk (zk bZ _) _;have s:=zoQ b;have y:=zoR b;go_enter func12,ntmps12;go_wp2_with fail;generalize (w.alloc _).alloc _=v at b s y ⊢;refine(zgh i j _ o p _ _ F Q (h1.below b) (K.below b)).mono ?_;rintro e v0 ⟨rfl,a⟩;have t:=zb s a;have z:=zb y a;have q:=ze b a;clear s y b a;have B:=za t 1 _ rfl;have C:=za z 1 _ rfl;go_wp2_with fail;clear B C;refine(zjQ g f _ n m _ _ G R (h2.below q) (L.below q)).mono ?_;rintro e v1 ⟨rfl,a⟩;have u:=zb t a;have A:=zb z a;have r:=ze q a;clear t z q a;have B:=za u 2 _ rfl;have C:=za A 2 _ rfl;go_wp2_with fail;clear B C;refine(zgn d c _ l k _ _ H S (h3.below r) (M.below r)).mono ?_;rintro e v2 ⟨rfl,a⟩;have A3:=zb u a;have B3:=zb A a;have E:=ze r a;clear u A r a;go_wp2;go_ret;exact⟨rfl,E⟩
end
section
open Go.RowKit
variable{w:World}{g t:Nat}{u0 u1 u2 u3 u4 u5 u6 u7 u8 u9 u10 u11:Value}
theorem znc {v3:Value}(h:w.heap[g]?=some (.cells #[u0,u1,u2,u3,u4,u5,u6,u7,u8,u9,u10,u11] t (0,0))):(qH w g 3 [v3]).heap[g]?=some (.cells #[u0,u1,u2,v3,u4,u5,u6,u7,u8,u9,u10,u11] t (0,0)):=by
 have:=(zm h 3 v3);simp only[qH]
 simpa using this
theorem zlC {v4 v5 v6 v7 c d a b:Value}(h:w.heap[g]?=some (.cells #[u0,u1,u2,u3,u4,u5,u6,u7,u8,u9,u10,u11] t (0,0))):(qH w g 4 [v4,v5,v6,v7,c,d,a,b]).heap[g]?=some (.cells #[u0,u1,u2,u3,v4,v5,v6,v7,c,d,a,b] t (0,0)):=by
 have:=(zm (zm (zm (zm (zm (zm (zm (zm h 4 v4) 5 v5) 6 v6) 7 v7) 8 c) 9 d) 10 a) 11 b);simp only[qH]
 simpa using this
theorem zlD {v0 v1 v2 v3 v4 v5 v6 v7 c d a b:Value}(h:w.heap[g]?=some (.cells #[u0,u1,u2,u3,u4,u5,u6,u7,u8,u9,u10,u11] t (0,0))):(qH w g 0 [v0,v1,v2,v3,v4,v5,v6,v7,c,d,a,b]).heap[g]?=some (.cells #[v0,v1,v2,v3,v4,v5,v6,v7,c,d,a,b] t (0,0)):=by
 have:=(zm (zm (zm (zm (zm (zm (zm (zm (zm (zm (zm (zm h 0 v0) 1 v1) 2 v2) 3 v3) 4 v4) 5 v5) 6 v6) 7 v7) 8 c) 9 d) 10 a) 11 b);simp only[qH]
 simpa using this
theorem szOp_raw (kind:Int)(own:ByteArray)(name:Int)(c:Option Addr)(lgn d:Nat)(pe:Int)(len:Int)(hei:Int)(cl:Int)(all:Bool)(be:Int)(unt:Int)(now:Int)(L:Int)(w:World)(h0:0<=L)(hL:L<=1048576)(m:own.size<=1000000000000000)(h:lgn<=1000000000000000) :
  Calls prog 7 #[.agg #[kind,own,name,(c,lgn,d),pe,len,hei,cl,all,be,unt,now],L] w λe w'=>∃ r:Int,e=.returned r/\(r=-1∨(0<=r/\r<=L/\own.size<=1048576/\lgn<=1048576))/\Below w.heap.size w w':=by
 have f:Below _ w (w.alloc (.cells #[kind,own,name,(c,lgn,d),pe,len,hei,cl,all,be,unt,now] 31)):=zk bZ _;have i:=zoP f
 by_cases gown:(own.size:Int)<=L
 ·have g:decide (L - (own.size:Int)<0)=false:=by simp;omega
  go_enter func7,ntmps7;go_wp2_with fail;refine(zhN c lgn d _ _ (by omega) (by omega) h).mono ?_
  rintro e w1 ⟨o,rfl,j,a⟩;have n:=zb i a;have b:=ze f a
  rcases j with rfl|⟨k,p,l⟩
  ·go_wp2
   go_ret;exact⟨_,rfl,.inl rfl,b⟩
  ·have d1:decide (o<0)=false:=by simpa using k
   go_wp2;go_ret;exact⟨_,rfl,.inr ⟨by omega,by omega,by omega,l⟩,b⟩
 ·have g:decide (L - (own.size:Int)<0)=true:=by simp;omega
  go_enter func7,ntmps7;go_wp2;go_ret;exact⟨_,rfl,.inl rfl,f⟩
theorem toOp_raw (kind:Int)(own:ByteArray)(name:Int)(g:Option Addr)(lgn l:Nat)(lg:Nat->Int)(pe:Int)(len:Int)(hei:Int)(cl:Int)(all:Bool)(be:Int)(unt:Int)(now:Int)(w:World)(a1:lgn<=1048576)(a0:zT w g lgn lg) :
  Calls prog 10 #[.agg #[kind,own,name,(g,lgn,l),pe,len,hei,cl,all,be,unt,now]] w λe w'=>∃ b,e=.returned (.agg #[kind,own,name,(some (b,0),lgn,lgn),pe,len,hei,cl,all,be,unt,now])/\(w.heap.size<=b/\b<w'.heap.size/\w'.rowIs b 3 lgn (λk=>int i64 (lg k)))/\Below w.heap.size w w':=by
 go_enter func10,ntmps10;go_wp2_with fail;obtain⟨P,m⟩:∃ W,W=(((w.alloc (.cells #[kind,own,name,(g,lgn,l),pe,len,hei,cl,all,be,unt,now] 31)).alloc (.cells #[(),False,(),True,(),(),(),(),.bool false,(),(),()] 47)).alloc (.cells #[kind,own,name,True,(),(),(),(),.bool false,(),(),()] 47)):=⟨_,rfl⟩;have Q:Below w.heap.size w P:=by rw[m];exact zk (zk (zk bZ _) _) _
 have A0:P.heap[w.heap.size]?=some (.cells #[kind,own,name,(g,lgn,l),pe,len,hei,cl,all,be,unt,now] 31 (0,0)):=by rw[m];exact zd (zd (Jb w _) _) _
 have R0:P.heap[w.heap.size+1]?=some (.cells #[(),False,(),True,(),(),(),(),.bool false,(),(),()] 47 (0,0)):=by rw[m];exact zd (by simpa using Jb (w.alloc _) _) _
 have R:P.heap[w.heap.size+1+1]?=some (.cells #[kind,own,name,True,(),(),(),(),.bool false,(),(),()] 47 (0,0)):=by rw[m];simpa using Jb ((w.alloc _).alloc _) _
 rw[← m];clear m;refine(zhM g lgn l lg _ a1 (a0.below Q)).mono ?_;rintro e v0 ⟨b,rfl,G,a,o⟩;have f:=zb A0 o;have B:=zb R0 o;have q:=zb R o;have z:=ze Q o;have b9:w.heap.size+1+1<b:=by have:=zM R;omega
 have E:w.heap.size<=b:=by omega
 clear A0 R0 R Q o G;have a2:=za f 4 _ rfl;have a3:=za f 5 _ rfl;have a4:=za f 6 _ rfl;have a5:=za f 7 _ rfl;have a6:=za f 8 _ rfl;have a7:=za f 9 _ rfl;have u:=za q 3 _ rfl;have S:=zg q 3;go_wp2_with fail;clear a2 a3 a4 a5 a6 a7 S u;obtain⟨y,h⟩:∃ W,W=qH v0 (w.heap.size+1+1) 3 [(some (b,0),lgn,lgn)]:=⟨_,rfl⟩;have A1:y.heap[w.heap.size]?=some (.cells #[kind,own,name,(g,lgn,l),pe,len,hei,cl,all,be,unt,now] 31 (0,0)):=by rw[h];exact qe (by omega) _ _ _ f
 have R1:y.heap[w.heap.size+1]?=some (.cells #[(),False,(),True,(),(),(),(),.bool false,(),(),()] 47 (0,0)):=by rw[h];exact qe (by omega) _ _ _ B
 have O1:y.heap[w.heap.size+1+1]?=some (.cells #[kind,own,name,(some (b,0),lgn,lgn),(),(),(),(),.bool false,(),(),()] 47 (0,0)):=by rw[h];exact znc q
 have H1:Below w.heap.size w y:=by rw[h];exact qZ (by omega) _ _ _ z
 have c:y.rowIs b 3 lgn (λk=>int i64 (lg k)):=by rw[h];exact qD (by omega) _ _ _ a
 have H:y=(v0.setCell (w.heap.size+1+1,3) (some (b,0),lgn,lgn)):=by rw[h];rfl
 rw[← H];clear h H f B q z a;have a:=c;clear c;refine(zgl pe len hei cl all be _).mono ?_;rintro e v1 ⟨rfl,n⟩;have p:=zb A1 n;have r:=zb R1 n;have d:=zb O1 n;have A:=ze H1 n;have j:=qo a n;clear A1 R1 O1 H1 n a;have a:=j;clear j;have L:=za p 10 _ rfl;have M:=za p 11 _ rfl;obtain⟨a8,a9,b0,u,b1,b2,b3,b4,b5,b6,N,O⟩:=zeW d;have T:=zg d 4;have U:=zg d 5;have V:=zg d 6;have X:=zg d 7;have Y:=zg d 8;have Z:=zg d 9;have C:=zg d 10;have D:=zg d 11;obtain⟨y0,y1,y2,y3,y4,y5,y6,y7,y8,y9,b7,b8⟩:=zeW r;obtain⟨z0,z1,z2,z3,z4,z5,z6,z7,z8,z9,v,x⟩:=fe12 r;go_wp2;clear L M T U V X Y Z C D a8 a9 b0 u b1 b2 b3 b4 b5 b6 N O z0 y0 z1 y1 z2 y2 z3 y3 z4 y4 z5 y5 z6 y6 z7 y7 z8 y8 z9 y9 v b7 x b8;obtain⟨s,i⟩:∃ W,W=qH v1 (w.heap.size+1+1) 4 [pe,len,hei,cl,all,be,unt,now]:=⟨_,rfl⟩;have A2:s.heap[w.heap.size]?=some (.cells #[kind,own,name,(g,lgn,l),pe,len,hei,cl,all,be,unt,now] 31 (0,0)):=by rw[i];exact qe (by omega) _ _ _ p
 have R2:s.heap[w.heap.size+1]?=some (.cells #[(),False,(),True,(),(),(),(),.bool false,(),(),()] 47 (0,0)):=by rw[i];exact qe (by omega) _ _ _ r
 have O2:s.heap[w.heap.size+1+1]?=some (.cells #[kind,own,name,(some (b,0),lgn,lgn),pe,len,hei,cl,all,be,unt,now] 47 (0,0)):=by rw[i];exact zlC d
 have H2:Below w.heap.size w s:=by rw[i];exact qZ (by omega) _ _ _ A
 have c:s.rowIs b 3 lgn (λk=>int i64 (lg k)):=by rw[i];exact qD (by omega) _ _ _ a
 have I:s=((((((((v1.setCell (w.heap.size+1+1,4) pe).setCell (w.heap.size+1+1,5) len).setCell (w.heap.size+1+1,6) hei).setCell (w.heap.size+1+1,7) cl).setCell (w.heap.size+1+1,8) all).setCell (w.heap.size+1+1,9) be).setCell (w.heap.size+1+1,10) unt).setCell (w.heap.size+1+1,11) now):=by rw[i];rfl
 rw[← I];clear i I p r d A a;have a:=c;clear c;obtain⟨F,K⟩:∃ F,F=qH s (w.heap.size+1) 0 [kind,own,name,(some (b,0),lgn,lgn),pe,len,hei,cl,all,be,unt,now]:=⟨_,rfl⟩;have RF:F.heap[w.heap.size+1]?=some (.cells #[kind,own,name,(some (b,0),lgn,lgn),pe,len,hei,cl,all,be,unt,now] 47 (0,0)):=by rw[K];exact zlD R2
 have HF:Below w.heap.size w F:=by rw[K];exact qZ (by omega) _ _ _ H2
 have t:F.rowIs b 3 lgn (λk=>int i64 (lg k)):=by rw[K];exact qD (by omega) _ _ _ a
 have J:F=((((((((((((s.setCell (w.heap.size+1,0) kind).setCell (w.heap.size+1,1) own).setCell (w.heap.size+1,2) name).setCell (w.heap.size+1,3) (some (b,0),lgn,lgn)).setCell (w.heap.size+1,4) pe).setCell (w.heap.size+1,5) len).setCell (w.heap.size+1,6) hei).setCell (w.heap.size+1,7) cl).setCell (w.heap.size+1,8) all).setCell (w.heap.size+1,9) be).setCell (w.heap.size+1,10) unt).setCell (w.heap.size+1,11) now):=by rw[K];rfl
 rw[← J];clear K J;obtain⟨z0,z1,z2,z3,z4,z5,z6,z7,z8,z9,v,x⟩:=zeW RF;exact Jj (by simp[results,results10,go_sem,z0,z1,z2,z3,z4,z5,z6,z7,z8,z9,v,x]) rfl ⟨b,rfl,⟨E,t.lt,t⟩,HF⟩
theorem eqOp_raw (kind:Int)(own:ByteArray)(name:Int)(b:Option Addr)(lgn j:Nat)(lg:Nat->Int)(pe:Int)(len:Int)(hei:Int)(cl:Int)(all:Bool)(be:Int)(unt:Int)(now:Int)(a:Option Addr)(h:Nat)(w:World)(o:lgn<=1048576)(n:zT w b lgn lg)(k:zT w a lgn lg) :
  Calls prog 14 #[.agg #[kind,own,name,(b,lgn,j),pe,len,hei,cl,all,be,unt,now],.agg #[kind,own,name,(a,lgn,h),pe,len,hei,cl,all,be,unt,now]] w λe w'=>e=.returned (.bool true)/\Below w.heap.size w w':=by
 have i:Below _ w ((w.alloc (.cells #[kind,own,name,(b,lgn,j),pe,len,hei,cl,all,be,unt,now] 47)).alloc (.cells #[kind,own,name,(a,lgn,h),pe,len,hei,cl,all,be,unt,now] 47)):=zk (zk bZ _) _;have l:=zoQ i;have m:=zoR i;go_enter func14,ntmps14;go_wp2_with fail;generalize (w.alloc _).alloc _=v at i l m ⊢;refine(zgj b _ lgn j _ lg _ o (n.below i) (k.below i)).mono ?_;rintro e v0 ⟨rfl,c⟩;have f:=zb l c;have g:=zb m c;have F:=ze i c;clear l m i c;have p:=za f 4 _ rfl;have x:=za g 4 _ rfl;have q:=za f 5 _ rfl;have y:=za g 5 _ rfl;have r:=za f 6 _ rfl;have z:=za g 6 _ rfl;have s:=za f 7 _ rfl;have A:=za g 7 _ rfl;have t:=za f 8 _ rfl;have B:=za g 8 _ rfl;have u:=za f 9 _ rfl;have C:=za g 9 _ rfl;go_wp2_with fail;clear p x q y r z s A t B u C;refine(zfC pe len hei cl all be _).mono ?_;rintro e v1 ⟨rfl,d⟩;have D:=zb f d;have E:=zb g d;have K:=ze F d;clear f g F d;have G:=za D 10 _ rfl;have I:=za E 10 _ rfl;have H:=za D 11 _ rfl;have J:=za E 11 _ rfl;go_wp2;go_ret;exact⟨rfl,K⟩
theorem szOp_any (cs:List Value)(x:OpD)(L:Int)(w:World)(f:0<=L)(g:L<=1048576)(j:OpD.Short x 1000000000000000)(h:OpD.Is w cs x) :
  Calls prog 7 #[.agg cs.toArray,L] w λe w'=>∃ r:Int,e=.returned r/\(r=-1∨(0<=r/\r<=L/\OpD.Short x 1048576))/\Below w.heap.size w w':=by
 obtain⟨c,d,rfl,i,k⟩:=h;obtain⟨a,b⟩:=j;exact szOp_raw _ _ _ _ _ _ _ _ _ _ _ _ _ _ L w f g a b
theorem ziu (cs:List Value)(x:OpD)(w:World)(k:OpD.Short x 1048576)(h:OpD.Is w cs x) :
  Calls prog 10 #[.agg cs.toArray] w λe w'=>∃ cs',e=.returned (.agg cs'.toArray)/\OpD.In w' w.heap.size w'.heap.size cs' x/\Below w.heap.size w w':=by
 obtain⟨f,g,rfl,b,l⟩:=h;obtain⟨_,a⟩:=k;refine(toOp_raw _ _ _ _ _ _ _ _ _ _ _ _ _ _ _ w a b).mono ?_;rintro e w' ⟨c,j,d,i⟩;exact⟨_,j,⟨c,rfl,d⟩,i⟩
theorem eqOp_same (cs g:List Value)(x:OpD)(w:World)(m:OpD.Short x 1048576)(h:OpD.Is w cs x)(l:OpD.Is w g x) :
  Calls prog 14 #[.agg cs.toArray,.agg g.toArray] w λe w'=>e=.returned (.bool true)/\Below w.heap.size w w':=by
 obtain⟨j,k,rfl,c,n⟩:=h;obtain⟨d,f,rfl,a,i⟩:=l;obtain⟨_,b⟩:=m;exact eqOp_raw _ _ _ _ _ _ _ _ _ _ _ _ _ _ _ _ _ w b c a
end
theorem znd (x lo a:Int)(w:World)(h:In x lo a) :
  Calls prog 191 #[x,lo,a] w λe w'=>e=.returned (.bool true)/\w'=w:=by
 have e1:decide (lo<=x)=true:=by simpa using h.1
 have e2:decide (x<=a)=true:=by simpa using h.2
 clear h;go_enter func191,ntmps191;go_wp2;go_ret;exact⟨rfl,rfl⟩
theorem within_no (x lo a:Int)(w:World)(h:¬ In x lo a) :
  Calls prog 191 #[x,lo,a] w λe w'=>e=.returned (.bool false)/\w'=w:=by
 by_cases h1:lo<=x
 ·have b:decide (lo<=x)=true:=by simpa using h1
  have e2:decide (x<=a)=false:=by simp;exact Int.not_le.1 (λh2=>h ⟨h1,h2⟩)
  clear h h1;go_enter func191,ntmps191;go_wp2;go_ret;exact⟨rfl,rfl⟩
 ·have b:decide (lo<=x)=false:=by simpa using h1
  clear h h1;go_enter func191,ntmps191;go_wp2;go_ret;exact⟨rfl,rfl⟩
theorem zz (x lo a:Int)(w:World) :
  Calls prog 191 #[x,lo,a] w λe w'=>e=.returned (.bool (decide (In x lo a)))/\w'=w:=by
 by_cases h:In x lo a
 ·rw[Jd h];exact znd x lo a w h
 ·rw[Jc h];exact within_no x lo a w h
theorem zcE (pe len hei cl:Int)(all:Bool)(be:Int)(w:World) :
  Calls prog 182 #[.agg #[pe,len,hei,cl,all,be]] w λe w'=>e=.returned (.bool (decide (¬ (len=0/\hei=0))))/\Below w.heap.size w w':=by
 obtain⟨c,d⟩:∃ c,c=decide (¬ (len=0/\hei=0)):=⟨_,rfl⟩;rw[← d];have a:=hI d;clear d
 by_cases h1:len=0
 ·subst h1
  by_cases h2:hei=0
  ·subst h2
   go_enter func182,ntmps182;go_wp2;go_ret;exact⟨by rw[a.out];rfl,zk bZ _⟩
  ·have e2:(hei != 0)=true:=by simpa using h2
   have b:Hid (c=true):=by rw[a.out];exact Jd (λh=>h2 h.2)
   clear h2;go_enter func182,ntmps182;go_wp2;go_ret;exact⟨by rw[b.out];rfl,zk bZ _⟩
 ·have e1:(len != 0)=true:=by simpa using h1
  have b:Hid (c=true):=by rw[a.out];exact Jd (λh=>h1 h.1)
  clear h1;go_enter func182,ntmps182;go_wp2;go_ret;exact⟨by rw[b.out];rfl,zk bZ _⟩
theorem Q7 (pe len hei cl:Int)(all:Bool)(be:Int)(w:World) :
  Calls prog 183 #[.agg #[pe,len,hei,cl,all,be]] w λe w'=>e=.returned (.bool (decide (¬ (cl=0/\all=false/\be=0))))/\Below w.heap.size w w':=by
 obtain⟨c,d⟩:∃ c,c=decide (¬ (cl=0/\all=false/\be=0)):=⟨_,rfl⟩;rw[← d];have b:=hI d;clear d
 by_cases h1:cl=0
 ·subst h1
  cases all with
  | true =>
   have a:Hid (c=true):=by rw[b.out];exact Jd (λh=>by cases h.2.1)
   go_enter func183,ntmps183;go_wp2;go_ret;exact⟨by rw[a.out];rfl,zk bZ _⟩
  | false =>
   by_cases h2:be=0
   ·subst h2
    go_enter func183,ntmps183;go_wp2;go_ret;exact⟨by rw[b.out];rfl,zk bZ _⟩
   ·have e2:(be != 0)=true:=by simpa using h2
    have a:Hid (c=true):=by rw[b.out];exact Jd (λh=>h2 h.2.2)
    clear h2;go_enter func183,ntmps183;go_wp2;go_ret;exact⟨by rw[a.out];rfl,zk bZ _⟩
 ·have e1:(cl != 0)=true:=by simpa using h1
  have a:Hid (c=true):=by rw[b.out];exact Jd (λh=>h1 h.1)
  clear h1;go_enter func183,ntmps183;go_wp2;go_ret;exact⟨by rw[a.out];rfl,zk bZ _⟩
theorem zbq (x y:Int)(w:World) :
  Calls prog 267 #[x,y] w λe w'=>e=.returned (.bool (decide (In x 1 2000/\In y 1 500)))/\w'=w:=by
 obtain⟨c,f⟩:∃ c,c=decide (In x 1 2000/\In y 1 500):=⟨_,rfl⟩;rw[← f];have d:=hI f;clear f
 by_cases h1:In x 1 2000
 ·have g:=Jd h1
  have a:=hI h1;clear h1
  by_cases h2:In y 1 500
  ·have i:=Jd h2
   have b:=hI h2;clear h2;go_enter func267,ntmps267;go_wp2_with (first|(go_at_call 191;refine sC (zz _ _ _ _) ?_))
   go_ret;exact⟨by rw[d.out,Jd ⟨a.out,b.out⟩];rfl,rfl⟩
  ·have i:=Jc h2
   have b:=hI h2;clear h2;go_enter func267,ntmps267;go_wp2_with (first|(go_at_call 191;refine sC (zz _ _ _ _) ?_))
   go_ret;exact⟨by rw[d.out,Jc (λh=>b.out h.2)];rfl,rfl⟩
 ·have g:=Jc h1
  have a:=hI h1;clear h1;go_enter func267,ntmps267;go_wp2_with (first|(go_at_call 191;refine sC (zz _ _ _ _) ?_))
  go_ret;exact⟨by rw[d.out,Jc (λh=>a.out h.1)];rfl,rfl⟩
end Go.Proofs.YtmdnjgihooflfaaGreatDoor

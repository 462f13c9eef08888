/-
  OWN TEXT: DrawS, DrawP, DrawAm, DrawK.
-/
import Derived.Test.YtgmdnkngnhkgbaaGreatB00
namespace Go.Proofs.YtgmdnkngnhkgbaaGreat
section
open Go.RowKit
structure CurAt (w:World) (cb:Nat) (ao:Option Addr) (n c p s:Nat):Prop where
 box:w.heap[cb]?=some (.cells #[.slice ao n c,.int .i64 (p:Int),.int .u64 (s:Int)] 72 (0,0))
 code:CodeAt w cb ao n
theorem CurAt.is {w:World} {cb n c p s:Nat} {ao:Option Addr} (h:CurAt w cb ao n c p s):CurIs w cb ao n c p:=⟨⟨p,s,Nat.le_refl _,h.box⟩,h.code⟩
theorem cur_to {w:World} {cb n c p k k' s':Nat} {ao:Option Addr} {s x:Int} (hx:x=(s':Int)) (hb:w.heap[cb]?=some (.cells #[.slice ao n c,.int .i64 p,.int .u64 s] 72 (0,0))) (hc:CodeAt w cb ao n) :
  CurAt ((((w.drewN k).setCell ⟨cb,1,none⟩ (.int .i64 ((p:Int)+1))).setCell ⟨cb,2,none⟩ (.int .u64 x)).drewN k') cb ao n c (p+1) s'∧zA w ((((w.drewN k).setCell ⟨cb,1,none⟩ (.int .i64 ((p:Int)+1))).setCell ⟨cb,2,none⟩ (.int .u64 x)).drewN k') (fun b=>b=cb):=by
 have e:(.int .i64 ((p:Int)+1):Value)=.int .i64 ((p+1:Nat):Int):=by simp
 have hk1:zA w (((w.drewN k).setCell ⟨cb,1,none⟩ (.int .i64 ((p:Int)+1))).setCell ⟨cb,2,none⟩ (.int .u64 x)) (fun b=>b=cb) :=
  ((zA.of_below (S:=fun b=>b=cb) (below_drewN (Below.refl _ w) k)).set (a:=⟨cb,1,none⟩) rfl _).set (a:=⟨cb,2,none⟩) rfl _
 have hk2:=hk1.trans (zA.of_below (S:=fun b=>b=cb) (below_drewN (Below.refl _ _) k'))
 have hb':(w.drewN k).heap[cb]?=some (.cells #[.slice ao n c,.int .i64 p,.int .u64 s] 72 (0,0)):=hb
 refine ⟨⟨?_,hc.kept hk2⟩,hk2⟩
 rw [← e,← hx]
 exact zt (zt hb' 1 _) 2 _
theorem cur_some {w:World} {cb n c p k k':Nat} {ao:Option Addr} {s x:Int} (hx:0≤x) (hb:w.heap[cb]?=some (.cells #[.slice ao n c,.int .i64 p,.int .u64 s] 72 (0,0))) (hc:CodeAt w cb ao n) :
  CurAt ((((w.drewN k).setCell ⟨cb,1,none⟩ (.int .i64 ((p:Int)+1))).setCell ⟨cb,2,none⟩ (.int .u64 x)).drewN k') cb ao n c (p+1) x.toNat∧zA w ((((w.drewN k).setCell ⟨cb,1,none⟩ (.int .i64 ((p:Int)+1))).setCell ⟨cb,2,none⟩ (.int .u64 x)).drewN k') (fun b=>b=cb) :=
 cur_to (Int.toNat_of_nonneg hx).symm hb hc
theorem lcg_wrap (s:Nat):IntKind.u64.wrap (IntKind.u64.wrap (IntKind.u64.wrap ((s:Int)*6364136223846793005))+1442695040888963407)=(lcg s:Int):=by
 unfold lcg lcgOf
 rw [IntKind.wrap_u64,IntKind.wrap_u64,IntKind.wrap_u64]
 omega
theorem lcg_byte (s:Nat):wrap64 (bits .and .u64 (IntKind.u64.wrap (IntKind.u64.wrap (IntKind.u64.wrap ((s:Int)*6364136223846793005))+1442695040888963407) / 1099511627776) 255)=((lcg s / 1099511627776 % 256:Nat):Int):=by
 have hl:lcg s<18446744073709551616:=Nat.mod_lt _ (by decide)
 rw [lcg_wrap,and_255 _ (by omega) (by omega)]
 unfold wrap64
 omega
set_option maxHeartbeats 800000 in
set_option maxRecDepth 100000 in
theorem nextX (cb:Nat) (ao:Option Addr) (n c p s:Nat) (w:World) (hp:p≤1000000000000000000) (h:CurAt w cb ao n c p s) :
  Calls Tryz.prog 96 #[.pointer (some ⟨cb,0,none⟩)] w fun e w'=>∃ r s':Nat,e=.returned (.int .i64 r)∧r≤255∧(n≤p→s'=lcg s∧r=lcg s / 1099511627776 % 256)∧CurAt w' cb ao n c (p+1) s'∧zA w w' (fun b=>b=cb):=by
 have hb:=h.box
 have hc:=h.code
 have q0:w.cell? ⟨cb,0,none⟩=some (.slice ao n c):=za hb 0 _ rfl
 have q1:w.cell? ⟨cb,1,none⟩=some (.int .i64 p):=za hb 1 _ rfl
 have q2:w.cell? ⟨cb,2,none⟩=some (.int .u64 s):=za hb 2 _ rfl
 have f1:=ze hb 1
 have f2:=ze hb 2
 have hw1:IntKind.i64.wrap ((p:Int)+1)=(p:Int)+1:=by rw [IntKind.wrap_i64];omega
 by_cases hlt:p<n
 ·obtain ⟨b,off,v,rfl,hne,hcell,v0,v1⟩:=hc p hlt
  have d1:decide ((p:Int)<(n:Int))=true:=by simp;omega
  have d2:decide ((p:Int)+1≤(n:Int))=true:=by simp;omega
  have i1:(p:Int)<(n:Int):=by omega
  have i0:(0:Int)≤(p:Int):=by omega
  go_enter Tryz.func96,Tryz.ntmps96
  go_wp2
  go_quiet (fail)
  go_wp2
  go_quiet (fail)
  go_wp2
  go_quiet (fail)
  go_wp2
  go_ret
  exact ⟨v.toNat,_,by rw [show ((v.toNat:Nat):Int)=v by omega];rfl,by omega,fun h=>absurd hlt (by omega),(cur_some (by rw [IntKind.wrap_u64];omega) hb hc).1,(cur_some (by rw [IntKind.wrap_u64];omega) hb hc).2⟩
 ·have d1:decide ((p:Int)<(n:Int))=false:=by simp;omega
  have d2:decide ((p:Int)+1≤(n:Int))=false:=by simp;omega
  have hby:=lcg_byte s
  go_enter Tryz.func96,Tryz.ntmps96
  go_wp2
  go_quiet (fail)
  go_wp2
  go_quiet (fail)
  go_wp2
  go_ret
  obtain ⟨h1,h2⟩:=cur_to (s':=lcg s) (x:=_) (p:=p) (lcg_wrap s) hb hc
  exact ⟨lcg s / 1099511627776 % 256,lcg s,by rw [← hby];rfl,by omega,fun _=>⟨rfl,rfl⟩,h1,h2⟩
set_option maxHeartbeats 800000 in
theorem pickX (cb:Nat) (ao:Option Addr) (n c p s m:Nat) (w:World) (hp:p≤1000000000000000000) (hm:2≤m) (hm2:m≤200) (h:CurAt w cb ao n c p s) :
  Calls Tryz.prog 63 #[.pointer (some ⟨cb,0,none⟩),.int .i64 m] w fun e w'=>∃ r s':Nat,e=.returned (.int .i64 r)∧r<m∧(n≤p→s'=lcg s∧r=lcg s / 1099511627776 % 256 % m)∧CurAt w' cb ao n c (p+1) s'∧zA w w' (fun b=>b=cb):=by
 have d1:decide ((m:Int)≤1)=false:=by simp;omega
 have m0:¬ ((m:Int)=0):=by omega
 have d2:decide ((200:Int)<(m:Int))=false:=by simp;omega
 go_enter Tryz.func63,Tryz.ntmps63
 go_wp2_with fail
 refine (nextX cb ao n c p s _ hp h).mono ?_
 rintro e w1 ⟨r,s',rfl,hr,hx,hc1,hk1⟩
 go_wp2
 go_ret
 exact ⟨r % m,s',by simp [Int.natCast_emod],Nat.mod_lt _ (by omega),fun hn=>⟨(hx hn).1,by rw [(hx hn).2]⟩,hc1,hk1⟩
theorem oneX (cb:Nat) (ao:Option Addr) (n c p s m:Nat) (w:World) (hp:p≤1000000000000000000) (hm:2≤m) (hm2:m≤200) (h:CurAt w cb ao n c p s) :
  Calls Tryz.prog 64 #[.pointer (some ⟨cb,0,none⟩),.int .i64 m] w fun e w'=>∃ (b:Bool) (s':Nat),e=.returned (.bool b)∧(n≤p→s'=lcg s)∧CurAt w' cb ao n c (p+1) s'∧zA w w' (fun b=>b=cb):=by
 go_enter Tryz.func64,Tryz.ntmps64
 go_wp2_with fail
 refine (pickX cb ao n c p s m _ hp hm hm2 h).mono ?_
 rintro e w1 ⟨r,s',rfl,hr,hx,hc1,hk1⟩
 cases hd:((r:Int) == 0) with
 | true =>
  go_wp2
  go_ret
  exact ⟨_,s',rfl,fun hn=>(hx hn).1,hc1,hk1⟩
 | false =>
  go_wp2
  go_ret
  exact ⟨_,s',rfl,fun hn=>(hx hn).1,hc1,hk1⟩
end
section
open Go.RowKit
def zU (r:Nat):ByteArray:=if r=0 then ⟨#[79,115,108,111]⟩ else if r=1 then ⟨#[75,105,101,108]⟩ else if r=2 then ⟨#[65,98,101,114]⟩ else ⟨#[66,111,100,101]⟩
theorem portName_ne {i j:Nat} (hi:i<4) (hj:j<4) (h:zU i=zU j):i=j:=by
 have h1:i=0∨i=1∨i=2∨i=3:=by omega
 have h2:j=0∨j=1∨j=2∨j=3:=by omega
 rcases h1 with rfl | rfl | rfl | rfl <;> rcases h2 with rfl | rfl | rfl | rfl <;> first | rfl | (exfalso;revert h;decide)
set_option maxHeartbeats 800000 in
theorem ofX (cb:Nat) (ao:Option Addr) (n c p s b m:Nat) (N:Nat→ByteArray) (w:World) (hp:p≤1000000000000000000) (hm:2≤m) (hm2:m≤200) (h:CurAt w cb ao n c p s) (hne:b≠cb) (hb:∀ k,k<m→w.cell? ⟨b,k,none⟩=some (.string (N k))) :
  Calls Tryz.prog 101 #[.pointer (some ⟨cb,0,none⟩),.slice (some ⟨b,0,none⟩) m m] w fun e w'=>∃ r s':Nat,e=.returned (.string (N r))∧r<m∧(n≤p→s'=lcg s∧r=lcg s / 1099511627776 % 256 % m)∧CurAt w' cb ao n c (p+1) s'∧zA w w' (fun b=>b=cb):=by
 go_enter Tryz.func101,Tryz.ntmps101
 go_wp2_with fail
 refine (pickX cb ao n c p s m _ hp hm hm2 h).mono ?_
 rintro e w1 ⟨r,s',rfl,hr,hx,hc1,hk1⟩
 have hcell:=hk1.cellAt (hb r hr) (by show ¬ b=cb;exact hne)
 have i0:(0:Int)≤(r:Int):=by omega
 have i1:(r:Int)<(m:Int):=by omega
 clear hb
 go_wp2
 go_ret
 exact ⟨r,s',rfl,hr,hx,hc1,hk1⟩
set_option maxHeartbeats 800000 in
theorem portX (cb:Nat) (ao:Option Addr) (n c p s:Nat) (w:World) (hp:p≤1000000000000000000) (h:CurAt w cb ao n c p s) :
  Calls Tryz.prog 115 #[.pointer (some ⟨cb,0,none⟩)] w fun e w'=>∃ r s':Nat,e=.returned (.string (zU r))∧r<4∧(n≤p→s'=lcg s∧r=lcg s / 1099511627776 % 256 % 4)∧CurAt w' cb ao n c (p+1) s'∧zA w w' (fun b=>b=cb):=by
 have hbx:=heap_alloc_new w (.cells #[.string (zU 0),.string (zU 1),.string (zU 2),.string (zU 3)] 9)
 have hbl:Below w.heap.size w (w.alloc (.cells #[.string (zU 0),.string (zU 1),.string (zU 2),.string (zU 3)] 9)):=zl (Below.refl _ _) _
 have hcb:cb<w.heap.size:=zQ h.box
 have h1:CurAt (w.alloc (.cells #[.string (zU 0),.string (zU 1),.string (zU 2),.string (zU 3)] 9)) cb ao n c p s:=⟨zb h.box hbl,h.code.kept (zA.of_below hbl)⟩
 go_enter Tryz.func115,Tryz.ntmps115
 go_wp2_with fail
 refine (ofX cb ao n c p s w.heap.size 4 zU _ hp (by omega) (by omega) h1 (by omega) (fun k hk=>?_)).mono ?_
 ·have:k=0∨k=1∨k=2∨k=3:=by omega
  rcases this with rfl | rfl | rfl | rfl
  ·exact za hbx 0 _ rfl
  ·exact za hbx 1 _ rfl
  ·exact za hbx 2 _ rfl
  ·exact za hbx 3 _ rfl
 rintro e w1 ⟨r,s',rfl,hr,hx,hc1,hk1⟩
 go_wp2
 go_ret
 exact ⟨r,s',rfl,hr,hx,hc1,(zA.of_below hbl).trans hk1⟩
def portAt (s:Nat):Nat:=s / 1099511627776 % 256 % 4
theorem steps_succ (h:Nat→Nat) (n s:Nat):steps h (n+1) s=steps h n (h s):=rfl
theorem steps_zero (h:Nat→Nat) (s:Nat):steps h 0 s=s:=rfl
theorem port_turns (i s:Nat):∃ k,k≤549755813888∧portAt (steps lcgTwo (k+1) s)≠i:=by
 by_cases h:portAt (lcgTwo s)=i
 ·obtain ⟨N,hle,hN⟩:=turns_ex
  refine ⟨N,hle,fun e=>?_⟩
  have ht:=hN (lcgTwo s)
  rw [steps_succ,← h] at e
  generalize steps lcgTwo N (lcgTwo s)=z at e ht
  unfold portAt at e
  omega
 ·exact ⟨0,Nat.zero_le _,by rw [steps_succ,steps_zero];exact h⟩
theorem least_of {P:Nat→Prop}:∀ k,P k→∃ m,P m∧∀ j,P j→m≤j:=by
 intro k
 induction k using Nat.strongRecOn with
 | _ k ih =>
  intro hk
  by_cases c:∃ j,j<k∧P j
  ·obtain ⟨j,hj,hp⟩:=c
   exact ih j hj hp
  ·exact ⟨k,hk,fun j hp=>by
    by_cases h:k≤j
    ·exact h
    ·exact absurd ⟨j,by omega,hp⟩ c⟩
theorem still_ex (i s:Nat):∃ m,portAt (steps lcgTwo (m+1) s)≠i∧∀ j,portAt (steps lcgTwo (j+1) s)≠i→m≤j:=by
 obtain ⟨k,_,hk⟩:=port_turns i s
 exact least_of (P:=fun m=>portAt (steps lcgTwo (m+1) s)≠i) k hk
noncomputable def still (i s:Nat):Nat:=(still_ex i s).choose
theorem still_le (i s:Nat):still i s≤549755813888:=by
 obtain ⟨k,hle,hk⟩:=port_turns i s
 have:=(still_ex i s).choose_spec.2 k hk
 have e1:(still_ex i s).choose=still i s:=rfl
 rw [e1] at this
 omega
theorem still_less {i s:Nat} (h:portAt (lcgTwo s)=i):still i (lcgTwo s)<still i s:=by
 have hs:=(still_ex i s).choose_spec
 have hl:=(still_ex i (lcgTwo s)).choose_spec
 have e1:(still_ex i s).choose=still i s:=rfl
 have e2:(still_ex i (lcgTwo s)).choose=still i (lcgTwo s):=rfl
 rw [e1] at hs
 rw [e2] at hl
 cases hk:still i s with
 | zero =>
  rw [hk] at hs
  have h1:=hs.1
  rw [steps_succ,steps_zero] at h1
  exact absurd h h1
 | succ k =>
  rw [hk] at hs
  have h1:=hs.1
  rw [steps_succ] at h1
  have:=hl.2 k h1
  omega
end
section
open Go.RowKit
theorem among_any (cb:Nat) (ao:Option Addr) (n c a:Nat) (b off m cap:Nat) (F:Nat→Int) (w:World) (ha:a≤900000000000000000) (hm:1≤m) (hm2:m≤100000) (h:CurIs w cb ao n c a) (hne:b≠cb) (hF:∀ k,k<m→w.cell? ⟨b,off+k,none⟩=some (.int .i64 (F k))) :
  Calls Tryz.prog 69 #[.pointer (some ⟨cb,0,none⟩),.slice (some ⟨b,off,none⟩) m cap] w fun e w'=>(∃ x:Int,e=.returned (.int .i64 x))∧CurIs w' cb ao n c (a+2)∧zA w w' (fun b=>b=cb):=by
 have HF:Hid _:=hF
 clear hF
 go_enter Tryz.func69,Tryz.ntmps69
 go_wp2_with fail
 refine (pick_any cb ao n c a m _ ha hm hm2 h).mono ?_
 rintro e w1 ⟨⟨r,rfl,hr⟩,hc1,hk1⟩
 have c1:=hk1.cellAt (HF.out r hr) hne
 have i1:(r:Int)<(m:Int):=by omega
 go_wp2
 go_ret
 exact ⟨⟨_,rfl⟩,hc1,hk1⟩
end
section
open Go.RowKit
theorem CurIs.below {w w':World} {cb n c a:Nat} {ao:Option Addr} (h:CurIs w cb ao n c a) (hb:Below w.heap.size w w'):CurIs w' cb ao n c a:=by
 obtain ⟨⟨p,s,hp,hk⟩,hc⟩:=h
 exact ⟨⟨p,s,hp,zb hk hb⟩,hc.kept (zA.of_below hb)⟩
theorem CurIs.lt {w:World} {cb n c a:Nat} {ao:Option Addr} (h:CurIs w cb ao n c a):cb<w.heap.size:=by
 obtain ⟨⟨p,s,hp,hb⟩,_⟩:=h
 exact zQ hb
theorem CurIs.code_lt {w:World} {cb n c a:Nat} {ao:Option Addr} (h:CurIs w cb ao n c a):∀ k,k<n→∀ b off,ao=some ⟨b,off,none⟩→b<w.heap.size:=by
 intro k hk b off e
 obtain ⟨b',off',v,e',_,hcell,_,_⟩:=h.2 k hk
 rw [e] at e'
 cases e'
 exact World.block_lt_of_cell? w _ hcell
set_option maxHeartbeats 800000 in
theorem amongL (cb:Nat) (ao:Option Addr) (n c a:Nat) (m:Nat) (l:List Int) (w:World) (hl:l.length=m) (ha:a≤900000000000000000) (hm:1≤m) (hm2:m≤100000) (h:CurIs w cb ao n c a) (b:Nat) (hb:w.heap[b]?=some (.cells (l.map (fun x=>Value.int .i64 x)).toArray 3 (0,0))) (hne:b≠cb) :
  Calls Tryz.prog 69 #[.pointer (some ⟨cb,0,none⟩),.slice (some ⟨b,0,none⟩) m m] w fun e w'=>(∃ x:Int,e=.returned (.int .i64 x))∧CurIs w' cb ao n c (a+2)∧zA w w' (fun b=>b=cb):=by
 refine among_any cb ao n c a b 0 m m (fun k=>l.getD k 0) w ha hm hm2 h hne (fun k hk=>?_)
 rw [Nat.zero_add]
 refine za hb k _ ?_
 simp only [List.getElem?_toArray,List.getElem?_map,List.getD_eq_getElem?_getD]
 rw [List.getElem?_eq_getElem (by omega)]
 rfl
def BytesAt (w:World) (ao:Option Addr) (n:Nat):Prop:=∀ k,k<n→∃ b off v,ao=some ⟨b,off,none⟩∧w.cell? ⟨b,off+k,none⟩=some (.int .u8 v)∧0≤v∧v≤255
theorem BytesAt.below {w w':World} {ao:Option Addr} {n:Nat} (h:BytesAt w ao n) (hb:Below w.heap.size w w'):BytesAt w' ao n:=by
 intro k hk
 obtain ⟨b,off,v,e,hc,h1,h2⟩:=h k hk
 exact ⟨b,off,v,e,(hb.cell (World.block_lt_of_cell? w _ hc)).trans hc,h1,h2⟩
theorem cur_new {w:World} {ao:Option Addr} {n c:Nat} (h:BytesAt w ao n):CurIs (w.alloc (.cells #[.slice ao n c,.int .i64 0,.int .u64 0] 72)) w.heap.size ao n c 0:=by
 refine ⟨⟨0,0,Nat.le_refl _,heap_alloc_new w _⟩,fun k hk=>?_⟩
 obtain ⟨b,off,v,e,hc,h1,h2⟩:=h k hk
 have hlt:b<w.heap.size:=World.block_lt_of_cell? w _ hc
 exact ⟨b,off,v,e,by omega,((zl (Below.refl _ w) _).cell (p:=⟨b,off+k,none⟩) hlt).trans hc,h1,h2⟩
end
end Go.Proofs.YtgmdnkngnhkgbaaGreat

/-
  OWN TEXT: DrawT, KitS, KitSh, KitD.
-/
import Derived.Test.YtgmdnkngnhkgbaaGreatRows
import Derived.Test.YtgmdnkngnhkgbaaGreatB01
namespace Go.Proofs.YtgmdnkngnhkgbaaGreat
section
open Go.RowKit
structure SSit (w wr:World) (xb cb:Nat) (ao:Option Addr) (n c p s:Nat) (id:Int) (fr dst:ByteArray) (dep arr:Int) (vl vc:Value) (most:Int):Prop where
 lo:w.heap.size<xb
 box:wr.heap[xb]?=some (.cells #[.int .i64 id,.string fr,.string dst,.int .i64 dep,.int .i64 arr,vl,vc,.int .i64 most] 33 (0,0))
 res:∃ cs:Array Value,cs.size=8∧wr.heap[w.heap.size]?=some (.cells cs 33 (0,0))
 cur:CurAt wr cb ao n c p s
 kept:zA w wr (fun b=>b=cb)
theorem lcgTwo_eq (s:Nat):lcgTwo s=lcg (lcg s):=by simp only [lcgTwo]
noncomputable def leftOf (n p i s:Nat):Nat:=if p<n then (n - p)+1099511627776 else still i s
theorem leftOf_less {n p i s s1 s2:Nat} (h1:n≤p→s1=lcg s) (h2:n≤p+1→s2=lcg s1∧i=lcg s1 / 1099511627776 % 256 % 4):leftOf n (p+1+1) i s2<leftOf n p i s:=by
 unfold leftOf
 by_cases hp:p<n
 ·rw [if_pos hp]
  by_cases hp2:p+1+1<n
  ·rw [if_pos hp2];omega
  ·rw [if_neg hp2];have:=still_le i s2;omega
 ·rw [if_neg hp,if_neg (by omega)]
  have e1:=h1 (by omega)
  obtain ⟨e2,hi⟩:=h2 (by omega)
  rw [e1,← lcgTwo_eq] at e2 hi
  rw [e2]
  refine still_less ?_
  rw [hi]
  rfl
noncomputable def curLeft (n i cb:Nat) (w:World):Nat:=leftOf n (intOf ((w.cell? ⟨cb,1,none⟩).getD undef)).toNat i (intOf ((w.cell? ⟨cb,2,none⟩).getD undef)).toNat
theorem curLeft_is {w:World} {cb n c p s i:Nat} {ao:Option Addr} (h:CurAt w cb ao n c p s):curLeft n i cb w=leftOf n p i s:=by
 unfold curLeft
 rw [za h.box 1 _ rfl,za h.box 2 _ rfl]
 simp [intOf]
theorem leftOf_le (n p i s:Nat):leftOf n p i s≤n+1099511627776:=by
 unfold leftOf
 split
 ·omega
 ·have:=still_le i s;omega
theorem CurAt.below {w w':World} {cb n c p s:Nat} {ao:Option Addr} (h:CurAt w cb ao n c p s) (hb:Below w.heap.size w w'):CurAt w' cb ao n c p s:=⟨zb h.box hb,h.code.kept (zA.of_below hb)⟩
open Classical in
/-- The same, 0 where the ports are not the same. -/
noncomputable def stillLeft (n i cb xb:Nat) (w:World):Nat:=if w.cell? ⟨xb,2,none⟩=some (.string (zU i)) then curLeft n i cb w+1 else 0
theorem SSit.c1 {w wr:World} {xb cb n c p s:Nat} {ao:Option Addr} {id dep arr most:Int} {fr dst:ByteArray} {vl vc:Value} (h:SSit w wr xb cb ao n c p s id fr dst dep arr vl vc most):wr.cell? ⟨xb,1,none⟩=some (.string fr):=za h.box 1 _ rfl
theorem SSit.c2 {w wr:World} {xb cb n c p s:Nat} {ao:Option Addr} {id dep arr most:Int} {fr dst:ByteArray} {vl vc:Value} (h:SSit w wr xb cb ao n c p s id fr dst dep arr vl vc most):wr.cell? ⟨xb,2,none⟩=some (.string dst):=za h.box 2 _ rfl
theorem SSit.on {w wr w':World} {xb cb n c p s p' s':Nat} {ao:Option Addr} {id dep arr most:Int} {fr dst:ByteArray} {vl vc:Value} (h:SSit w wr xb cb ao n c p s id fr dst dep arr vl vc most) (hcb:cb<w.heap.size) (hc:CurAt w' cb ao n c p' s') (hk:zA wr w' (fun b=>b=cb)):SSit w w' xb cb ao n c p' s' id fr dst dep arr vl vc most:=by
 obtain ⟨h1,h2,⟨cs,h3,h4⟩,_,h6⟩:=h
 exact ⟨h1,hk.blk h2 (by omega),⟨cs,h3,hk.blk h4 (by omega)⟩,hc,h6.trans hk⟩
theorem CurAt.other {w:World} {cb n c p s b i:Nat} {ao:Option Addr} (h:CurAt w cb ao n c p s) (hne:cb≠b) (hcode:∀ k,k<n→∀ b' off,ao=some ⟨b',off,none⟩→b'≠b) (u:Value):CurAt (w.setCell ⟨b,i,none⟩ u) cb ao n c p s:=by
 refine ⟨zB h.box i u hne,fun k hk=>?_⟩
 obtain ⟨b',off,v,e,hn,hc,h1,h2⟩:=h.code k hk
 refine ⟨b',off,v,e,hn,?_,h1,h2⟩
 have hb:((w.setCell ⟨b,i,none⟩ u).heap[b']?)=w.heap[b']?:=Below.heap_setCell w ⟨b,i,none⟩ u b' (hcode k hk b' off e)
 unfold World.cell? at hc ⊢
 rw [hb];exact hc
theorem portList_ne {i j:Nat} (hi:i<4) (hj:j<4) (h:i≠j):((zU i).toList == (zU j).toList)=false:=by
 have h1:i=0∨i=1∨i=2∨i=3:=by omega
 have h2:j=0∨j=1∨j=2∨j=3:=by omega
 rcases h1 with rfl | rfl | rfl | rfl <;> rcases h2 with rfl | rfl | rfl | rfl <;> first | exact absurd rfl h | decide +kernel
def CodeLow (w:World) (ao:Option Addr) (n:Nat):Prop:=∀ k,k<n→∀ b off,ao=some ⟨b,off,none⟩→b<w.heap.size
theorem SSit.dst {w wr:World} {xb cb n c p s:Nat} {ao:Option Addr} {id dep arr most:Int} {fr dst:ByteArray} {vl vc:Value} (h:SSit w wr xb cb ao n c p s id fr dst dep arr vl vc most) (hcb:cb<w.heap.size) (hl:CodeLow w ao n) (d:ByteArray):SSit w (wr.setCell ⟨xb,2,none⟩ (.string d)) xb cb ao n c p s id fr d dep arr vl vc most:=by
 obtain ⟨h1,h2,⟨cs,h3,h4⟩,h5,h6⟩:=h
 exact ⟨h1,by simpa using zt h2 2 (.string d),⟨cs,h3,zB h4 _ _ (by omega)⟩,h5.other (by omega) (fun k hk b' off e=>by have:=hl k hk b' off e;omega) _,
  ⟨h6.os,h6.tape,h6.output,by have:=h6.size;simpa using this,fun k hk hn=>(Below.heap_setCell wr ⟨xb,2,none⟩ (.string d) k (by show k≠xb;omega)).trans (h6.block k hk hn)⟩⟩
end
section
open Go.RowKit
structure zP where
 n:Nat
 A:Nat→Int
 B:Nat→Int
def zT (w:World) (ao:Option Addr) (p:zP):Prop :=
 ∀ k,k<p.n→∃ b off,ao=some ⟨b,off,none⟩∧w.cell? ⟨b,off+k*2,none⟩=some (.int .i64 (p.A k))∧w.cell? ⟨b,off+k*2+1,none⟩=some (.int .i64 (p.B k))
theorem zT.below {w w':World} {ao:Option Addr} {p:zP} (h:zT w ao p) (hb:Below w.heap.size w w'):zT w' ao p:=by
 intro k hk
 obtain ⟨b,off,e,h1,h2⟩:=h k hk
 have hlt:b<w.heap.size:=World.block_lt_of_cell? w _ h1
 exact ⟨b,off,e,(hb.cell hlt).trans h1,(hb.cell hlt).trans h2⟩
def pairCell (p:zP) (j:Nat):Value:=if j % 2=0 then .int .i64 (p.A (j / 2)) else .int .i64 (p.B (j / 2))
theorem pairCell_0 (p:zP) (k:Nat):pairCell p (k*2)=.int .i64 (p.A k):=by
 unfold pairCell;rw [if_pos (by omega),show k*2 / 2=k by omega]
theorem pairCell_1 (p:zP) (k:Nat):pairCell p (k*2+1)=.int .i64 (p.B k):=by
 unfold pairCell;rw [if_neg (by omega),show (k*2+1) / 2=k by omega]
def zZ (ao:Option Addr) (n c:Nat):Prop:=n≤c∧c≤9223372036854775807∧(ao=none→n=0∧c=0)
structure Sail where
 id:Int
 fr:ByteArray
 dst:ByteArray
 dep:Int
 arr:Int
 la:zP
 ca:zP
 most:Int
def SailsAt (w:World) (ao:Option Addr) (N:Nat) (S:Nat→Sail):Prop :=
 ∀ k,k<N→∃ b off la lc ca cc,ao=some ⟨b,off,none⟩∧w.cell? ⟨b,off+k*8,none⟩=some (.int .i64 (S k).id)∧w.cell? ⟨b,off+k*8+1,none⟩=some (.string (S k).fr) ∧
  w.cell? ⟨b,off+k*8+2,none⟩=some (.string (S k).dst)∧w.cell? ⟨b,off+k*8+3,none⟩=some (.int .i64 (S k).dep)∧w.cell? ⟨b,off+k*8+4,none⟩=some (.int .i64 (S k).arr) ∧
  w.cell? ⟨b,off+k*8+5,none⟩=some (.slice la (S k).la.n lc)∧w.cell? ⟨b,off+k*8+6,none⟩=some (.slice ca (S k).ca.n cc)∧w.cell? ⟨b,off+k*8+7,none⟩=some (.int .i64 (S k).most) ∧
  zT w la (S k).la∧zT w ca (S k).ca∧zZ la (S k).la.n lc∧zZ ca (S k).ca.n cc
theorem SailsAt.below {w w':World} {ao:Option Addr} {N:Nat} {S:Nat→Sail} (h:SailsAt w ao N S) (hb:Below w.heap.size w w'):SailsAt w' ao N S:=by
 intro k hk
 obtain ⟨b,off,la,lc,ca,cc,e,h0,h1,h2,h3,h4,h5,h6,h7,h8,h9,ha,hc⟩:=h k hk
 have hlt:b<w.heap.size:=World.block_lt_of_cell? w _ h1
 exact ⟨b,off,la,lc,ca,cc,e,(hb.cell hlt).trans h0,(hb.cell hlt).trans h1,(hb.cell hlt).trans h2,(hb.cell hlt).trans h3,(hb.cell hlt).trans h4,(hb.cell hlt).trans h5,(hb.cell hlt).trans h6,(hb.cell hlt).trans h7,h8.below hb,h9.below hb,ha,hc⟩
def sailCell (S:Nat→Sail) (ls cs:Nat→Value) (j:Nat):Value :=
 if j % 8=0 then .int .i64 (S (j / 8)).id else if j % 8=1 then .string (S (j / 8)).fr else if j % 8=2 then .string (S (j / 8)).dst else if j % 8=3 then .int .i64 (S (j / 8)).dep
 else if j % 8=4 then .int .i64 (S (j / 8)).arr else if j % 8=5 then ls (j / 8) else if j % 8=6 then cs (j / 8) else .int .i64 (S (j / 8)).most
theorem sailCell_0 (S:Nat→Sail) (ls cs:Nat→Value) (k:Nat):sailCell S ls cs (k*8)=.int .i64 (S k).id:=by
 unfold sailCell;rw [if_pos (by omega),show k*8 / 8=k by omega]
theorem sailCell_1 (S:Nat→Sail) (ls cs:Nat→Value) (k:Nat):sailCell S ls cs (k*8+1)=.string (S k).fr:=by
 unfold sailCell;rw [if_neg (by omega),if_pos (by omega),show (k*8+1) / 8=k by omega]
theorem sailCell_2 (S:Nat→Sail) (ls cs:Nat→Value) (k:Nat):sailCell S ls cs (k*8+2)=.string (S k).dst:=by
 unfold sailCell;rw [if_neg (by omega),if_neg (by omega),if_pos (by omega),show (k*8+2) / 8=k by omega]
theorem sailCell_3 (S:Nat→Sail) (ls cs:Nat→Value) (k:Nat):sailCell S ls cs (k*8+3)=.int .i64 (S k).dep:=by
 unfold sailCell;rw [if_neg (by omega),if_neg (by omega),if_neg (by omega),if_pos (by omega),show (k*8+3) / 8=k by omega]
theorem sailCell_4 (S:Nat→Sail) (ls cs:Nat→Value) (k:Nat):sailCell S ls cs (k*8+4)=.int .i64 (S k).arr:=by
 unfold sailCell;rw [if_neg (by omega),if_neg (by omega),if_neg (by omega),if_neg (by omega),if_pos (by omega),show (k*8+4) / 8=k by omega]
theorem sailCell_5 (S:Nat→Sail) (ls cs:Nat→Value) (k:Nat):sailCell S ls cs (k*8+5)=ls k:=by
 unfold sailCell;rw [if_neg (by omega),if_neg (by omega),if_neg (by omega),if_neg (by omega),if_neg (by omega),if_pos (by omega),show (k*8+5) / 8=k by omega]
theorem sailCell_6 (S:Nat→Sail) (ls cs:Nat→Value) (k:Nat):sailCell S ls cs (k*8+6)=cs k:=by
 unfold sailCell;rw [if_neg (by omega),if_neg (by omega),if_neg (by omega),if_neg (by omega),if_neg (by omega),if_neg (by omega),if_pos (by omega),show (k*8+6) / 8=k by omega]
theorem sailCell_7 (S:Nat→Sail) (ls cs:Nat→Value) (k:Nat):sailCell S ls cs (k*8+7)=.int .i64 (S k).most:=by
 unfold sailCell;rw [if_neg (by omega),if_neg (by omega),if_neg (by omega),if_neg (by omega),if_neg (by omega),if_neg (by omega),if_neg (by omega),show (k*8+7) / 8=k by omega]
def SaysIf (P:Prop) (e:Ending):Prop:=∃ b:Bool,e=.returned (.bool b)∧(b=true↔P)
theorem zI {P:Prop} (h:P):SaysIf P (.returned (.bool true)):=⟨true,rfl,⟨fun _=>h,fun _=>rfl⟩⟩
theorem zk {P:Prop} (h:¬ P):SaysIf P (.returned (.bool false)):=⟨false,rfl,⟨fun e=>(by cases e),fun p=>absurd p h⟩⟩
def Tells (P:Prop) (c:Value):Prop:=∃ b:Bool,c=.bool b∧(b=false↔P)
theorem tells_bad {P:Prop} (h:¬ P):Tells P (.bool true):=⟨true,rfl,⟨fun e=>(by cases e),fun p=>absurd p h⟩⟩
theorem tells_good {P:Prop} (h:P):Tells P (.bool false):=⟨false,rfl,⟨fun _=>h,fun _=>rfl⟩⟩
end
section
open Go.RowKit
def ShortS (s:Sail) (B:Nat):Prop:=s.fr.size≤B∧s.dst.size≤B∧s.la.n≤B∧s.ca.n≤B
def ShortAll (N:Nat) (S:Nat→Sail) (B:Nat):Prop:=∀ i,i<N→ShortS (S i) B
theorem Tryz.infoLane:(Tryz.prog.info? 88).map (fun i=>(i.zero,i.size,i.bytes))=some (some (.agg #[.int .i64 0,.int .i64 0]),2,16):=by kernel_rfl
theorem Tryz.infoCabin:(Tryz.prog.info? 96).map (fun i=>(i.zero,i.size,i.bytes))=some (some (.agg #[.int .i64 0,.int .i64 0]),2,16):=by kernel_rfl
theorem Tryz.infoSailing:(Tryz.prog.info? 33).map (fun i=>(i.zero,i.size,i.bytes))=some (some (.agg #[.int .i64 0,.string ⟨#[]⟩,.string ⟨#[]⟩,.int .i64 0,.int .i64 0,.slice none 0 0,.slice none 0 0,.int .i64 0]),8,112):=by kernel_rfl
end
section
open Go.RowKit
def recCell (sz:Nat) (C:Nat→List Value) (j:Nat):Value:=(C (j / sz)).getD (j % sz) (.bool false)
theorem zz (sz:Nat) (C:Nat→List Value) (k j:Nat) (hj:j<sz):recCell sz C (k*sz+j)=(C k).getD j (.bool false):=by
 unfold recCell
 have h0:0<sz:=by omega
 rw [show (k*sz+j) / sz=k by rw [Nat.add_comm,Nat.add_mul_div_right _ _ h0,Nat.div_eq_of_lt hj,Nat.zero_add],show (k*sz+j) % sz=j by rw [Nat.add_comm,Nat.add_mul_mod_self_right,Nat.mod_eq_of_lt hj]]
def RecsAt (w:World) (ao:Option Addr) (N sz:Nat) (C:Nat→List Value):Prop :=
 ∀ k,k<N→∃ b off,ao=some ⟨b,off,none⟩∧∀ j,j<sz→w.cell? ⟨b,off+k*sz+j,none⟩=some ((C k).getD j (.bool false))
theorem RecsAt.below {w w':World} {ao:Option Addr} {N sz:Nat} {C:Nat→List Value} (h:RecsAt w ao N sz C) (hb:Below w.heap.size w w'):RecsAt w' ao N sz C:=by
 intro k hk
 obtain ⟨b,off,e,hc⟩:=h k hk
 exact ⟨b,off,e,fun j hj=>(hb.cell (World.block_lt_of_cell? w _ (hc j hj))).trans (hc j hj)⟩
theorem RecsAt.upto {w:World} {ao:Option Addr} {N M sz:Nat} {C:Nat→List Value} (h:RecsAt w ao N sz C) (hM:M≤N):RecsAt w ao M sz C:=fun k hk=>h k (by omega)
end
end Go.Proofs.YtgmdnkngnhkgbaaGreat

/-
  OWN TEXT: KitOwn, DrawX, KitAt, KitTS.
-/
import Derived.Test.YtgmdnkngnhkgbaaGreatB02
namespace Go.Proofs.YtgmdnkngnhkgbaaGreat
section
open Go.RowKit
def zR (p:zP):List Value:=(List.range (p.n*2)).map (pairCell p)
theorem pairRow_length (p:zP):(zR p).length=p.n*2:=by simp [zR]
theorem pairRow_get {p:zP} {j:Nat} {u:Value} (h:(zR p)[j]?=some u):j<p.n*2∧u=pairCell p j:=by
 unfold zR at h
 rw [List.getElem?_map] at h
 by_cases hj:j<p.n*2
 ·rw [List.getElem?_range hj] at h;simp at h;exact ⟨hj,h.symm⟩
 ·rw [List.getElem?_eq_none (by simpa using hj)] at h;cases h
theorem pairRow_one (p:zP):∀ u ∈ zR p,u.oneCell'=true:=by
 intro u hu
 unfold zR at hu
 obtain ⟨j,_,rfl⟩:=List.mem_map.1 hu
 unfold pairCell
 split <;> rfl
theorem pairs_cells {w:World} {ao:Option Addr} {p:zP} (h:zT w ao p):∀ ad,ao=some ad→∀ j u,(zR p)[j]?=some u→w.cell? (ad.add j)=some u:=by
 intro ad e j u hu
 obtain ⟨hj,rfl⟩:=pairRow_get hu
 obtain ⟨b,off,e2,h0,h1⟩:=h (j / 2) (by omega)
 rw [e] at e2
 cases e2
 rw [Addr.add_lit]
 unfold pairCell
 by_cases c:j % 2=0
 ·rw [if_pos c,← h0,show off+j / 2*2=off+j by omega]
 ·rw [if_neg c,← h1,show off+j / 2*2+1=off+j by omega]
theorem pairs_of_own {w:World} {base t c:Nat} {ao:Option Addr} {p:zP} (h:w.ownsRow base t 2 (.slice ao p.n c) p.n (zR p)):zT w ao p:=by
 intro k hk
 obtain ⟨g,rfl,_,_⟩:=own_addr h (by omega)
 refine ⟨g,0,rfl,?_,?_⟩
 ·rw [Nat.zero_add,zx h (k*2) (by omega) rfl,pairCell_0]
 ·rw [Nat.zero_add,zx h (k*2+1) (by omega) rfl,pairCell_1]
structure OwnSails (w:World) (base:Nat) (v:Value) (N:Nat) (S:Nat→Sail) (L C:Nat→Value):Prop where
 row:w.ownsRow base 33 8 v N ((List.range (N*8)).map (sailCell S L C))
 la:∀ i,i<N→w.ownsRow base 88 2 (L i) (S i).la.n (zR (S i).la)
 ca:∀ i,i<N→w.ownsRow base 96 2 (C i) (S i).ca.n (zR (S i).ca)
 apart:∀ i j,i<j→j<N→(∀ b,(L i).ownBlock=some b→(L j).ownBlock≠some b)∧(∀ b,(C i).ownBlock=some b→(C j).ownBlock≠some b)
theorem OwnSails.below {w w':World} {base:Nat} {v:Value} {N:Nat} {S:Nat→Sail} {L C:Nat→Value} (h:OwnSails w base v N S L C) (hb:Below w.heap.size w w'):OwnSails w' base v N S L C :=
 ⟨zp hb h.row,fun i hi=>zp hb (h.la i hi),fun i hi=>zp hb (h.ca i hi),h.apart⟩
theorem OwnSails.kept {w w':World} {base:Nat} {v:Value} {N:Nat} {S:Nat→Sail} {L C:Nat→Value} {T:Nat→Prop} (h:OwnSails w base v N S L C) (hk:zA w w' T) (hT:∀ b,T b→b<base):OwnSails w' base v N S L C :=
 ⟨hk.own h.row (fun g hg s=>by have:=(h.row.lt g hg).1;have:=hT g s;omega),fun i hi=>hk.own (h.la i hi) (fun g hg s=>by have:=((h.la i hi).lt g hg).1;have:=hT g s;omega),
  fun i hi=>hk.own (h.ca i hi) (fun g hg s=>by have:=((h.ca i hi).lt g hg).1;have:=hT g s;omega),h.apart⟩
theorem OwnSails.base {w:World} {b1 b2:Nat} {v:Value} {N:Nat} {S:Nat→Sail} {L C:Nat→Value} (h:OwnSails w b1 v N S L C) (hb:b2≤b1):OwnSails w b2 v N S L C :=
 ⟨zC h.row hb,fun i hi=>zC (h.la i hi) hb,fun i hi=>zC (h.ca i hi) hb,h.apart⟩
theorem OwnSails.at {w:World} {base:Nat} {ao:Option Addr} {N c:Nat} {S:Nat→Sail} {L C:Nat→Value} (h:OwnSails w base (.slice ao N c) N S L C):SailsAt w ao N S:=by
 intro k hk
 obtain ⟨g,rfl,_,_⟩:=own_addr h.row (by omega)
 obtain ⟨la,lc,e1,l1,l2,l3⟩:=zr (h.la k hk)
 obtain ⟨ca,cc,e2,c1,c2,c3⟩:=zr (h.ca k hk)
 have o1:=h.la k hk
 have o2:=h.ca k hk
 rw [e1] at o1
 rw [e2] at o2
 refine ⟨g,0,la,lc,ca,cc,rfl,?_,?_,?_,?_,?_,?_,?_,?_,pairs_of_own o1,pairs_of_own o2,⟨l1,l2,l3⟩,⟨c1,c2,c3⟩⟩
 ·rw [Nat.zero_add,zx h.row (k*8) (by omega) rfl,sailCell_0]
 ·rw [Nat.zero_add,zx h.row (k*8+1) (by omega) rfl,sailCell_1]
 ·rw [Nat.zero_add,zx h.row (k*8+2) (by omega) rfl,sailCell_2]
 ·rw [Nat.zero_add,zx h.row (k*8+3) (by omega) rfl,sailCell_3]
 ·rw [Nat.zero_add,zx h.row (k*8+4) (by omega) rfl,sailCell_4]
 ·rw [Nat.zero_add,zx h.row (k*8+5) (by omega) rfl,sailCell_5,e1]
 ·rw [Nat.zero_add,zx h.row (k*8+6) (by omega) rfl,sailCell_6,e2]
 ·rw [Nat.zero_add,zx h.row (k*8+7) (by omega) rfl,sailCell_7]
theorem OwnSails.nil (w:World) (base:Nat) (S:Nat→Sail) (L C:Nat→Value):OwnSails w base (.slice none 0 0) 0 S L C :=
 ⟨⟨rfl,.inl ⟨rfl,rfl⟩⟩,fun i hi=>by omega,fun i hi=>by omega,fun i j hi hj=>by omega⟩
end
section
open Go.RowKit
def CurX (w:World) (cb:Nat) (ao:Option Addr) (n c a:Nat):Prop:=∃ p s,p≤a∧CurAt w cb ao n c p s
theorem CurX.more {w:World} {cb n c a b:Nat} {ao:Option Addr} (h:CurX w cb ao n c a) (hab:a≤b):CurX w cb ao n c b:=by
 obtain ⟨p,s,hp,hc⟩:=h
 exact ⟨p,s,by omega,hc⟩
theorem CurX.below {w w':World} {cb n c a:Nat} {ao:Option Addr} (h:CurX w cb ao n c a) (hb:Below w.heap.size w w'):CurX w' cb ao n c a:=by
 obtain ⟨p,s,hp,hc⟩:=h
 exact ⟨p,s,hp,hc.below hb⟩
theorem CurX.far {w w':World} {cb n c a:Nat} {ao:Option Addr} {T:Nat→Prop} (h:CurX w cb ao n c a) (hk:zA w w' T) (h1:¬ T cb) (h2:∀ k,k<n→∀ b off,ao=some ⟨b,off,none⟩→¬ T b):CurX w' cb ao n c a:=by
 obtain ⟨p,s,hp,hc⟩:=h
 refine ⟨p,s,hp,hk.blk hc.box h1,fun k hk'=>?_⟩
 obtain ⟨b,off,v,e,hne,hcell,q1,q2⟩:=hc.code k hk'
 exact ⟨b,off,v,e,hne,hk.cellAt hcell (h2 k hk' b off e),q1,q2⟩
theorem kept_away' {w w1 w2:World} {S T:Nat→Prop} (h:zA w w1 S) (hk:zA w1 w2 T) (hT:∀ b,T b→w.heap.size≤b):zA w w2 S :=
 ⟨hk.os.trans h.os,hk.tape.trans h.tape,hk.output.trans h.output,Nat.le_trans h.size hk.size,fun i hi hs=>(hk.block i (Nat.lt_of_lt_of_le hi h.size) (fun e=>by have:=hT i e;omega)).trans (h.block i hi hs)⟩
theorem pickC (cb:Nat) (ao:Option Addr) (n c a m:Nat) (w:World) (ha:a≤900000000000000000) (hm:2≤m) (hm2:m≤200) (h:CurX w cb ao n c a) :
  Calls Tryz.prog 63 #[.pointer (some ⟨cb,0,none⟩),.int .i64 m] w fun e w'=>(∃ r:Nat,e=.returned (.int .i64 r)∧r<m)∧CurX w' cb ao n c (a+1)∧zA w w' (fun b=>b=cb):=by
 obtain ⟨p,s,hp,hc⟩:=h
 refine (pickX cb ao n c p s m w (by omega) hm hm2 hc).mono ?_
 rintro e w1 ⟨r,s1,rfl,hr,_,hc1,hk1⟩
 exact ⟨⟨r,rfl,hr⟩,⟨p+1,s1,by omega,hc1⟩,hk1⟩
theorem oneC (cb:Nat) (ao:Option Addr) (n c a m:Nat) (w:World) (ha:a≤900000000000000000) (hm:2≤m) (hm2:m≤200) (h:CurX w cb ao n c a) :
  Calls Tryz.prog 64 #[.pointer (some ⟨cb,0,none⟩),.int .i64 m] w fun e w'=>(∃ b:Bool,e=.returned (.bool b))∧CurX w' cb ao n c (a+1)∧zA w w' (fun b=>b=cb):=by
 obtain ⟨p,s,hp,hc⟩:=h
 refine (oneX cb ao n c p s m w (by omega) hm hm2 hc).mono ?_
 rintro e w1 ⟨b,s1,rfl,_,hc1,hk1⟩
 exact ⟨⟨b,rfl⟩,⟨p+1,s1,by omega,hc1⟩,hk1⟩
theorem ofC (cb:Nat) (ao:Option Addr) (n c a m:Nat) (l:List ByteArray) (w:World) (hl:l.length=m) (ha:a≤900000000000000000) (hm:2≤m) (hm2:m≤200) (h:CurX w cb ao n c a) (b:Nat) (hb:w.heap[b]?=some (.cells (l.map Value.string).toArray 9 (0,0))) (hne:b≠cb) :
  Calls Tryz.prog 101 #[.pointer (some ⟨cb,0,none⟩),.slice (some ⟨b,0,none⟩) m m] w fun e w'=>(∃ s,e=.returned (.string s)∧Hid (s ∈ l))∧CurX w' cb ao n c (a+1)∧zA w w' (fun b=>b=cb):=by
 obtain ⟨p,s,hp,hc⟩:=h
 refine (ofX cb ao n c p s b m (fun k=>l.getD k ⟨#[]⟩) w (by omega) hm hm2 hc hne (fun k hk=>?_)).mono ?_
 ·refine za hb k _ ?_
  simp only [List.getElem?_toArray,List.getElem?_map,List.getD_eq_getElem?_getD]
  rw [List.getElem?_eq_getElem (by omega)]
  rfl
 rintro e w1 ⟨r,s1,rfl,hr,_,hc1,hk1⟩
 refine ⟨⟨_,rfl,?_⟩,⟨p+1,s1,by omega,hc1⟩,hk1⟩
 show l.getD r ⟨#[]⟩ ∈ l
 rw [List.getD_eq_getElem?_getD,List.getElem?_eq_getElem (by omega)]
 exact List.getElem_mem _
set_option maxHeartbeats 800000 in
theorem amongC (cb:Nat) (ao:Option Addr) (n c a m:Nat) (l:List Int) (w:World) (hl:l.length=m) (ha:a≤900000000000000000) (hm:2≤m) (hm2:m≤200) (h:CurX w cb ao n c a) (b:Nat) (hb:w.heap[b]?=some (.cells (l.map (fun x=>Value.int .i64 x)).toArray 3 (0,0))) (hne:b≠cb) :
  Calls Tryz.prog 69 #[.pointer (some ⟨cb,0,none⟩),.slice (some ⟨b,0,none⟩) m m] w fun e w'=>(∃ x:Int,e=.returned (.int .i64 x))∧CurX w' cb ao n c (a+1)∧zA w w' (fun b=>b=cb):=by
 have HB:Hid _:=hb
 clear hb
 go_enter Tryz.func69,Tryz.ntmps69
 go_wp2_with fail
 refine (pickC cb ao n c a m _ ha hm hm2 h).mono ?_
 rintro e w1 ⟨⟨r,rfl,hr⟩,hc1,hk1⟩
 have c1:w1.cell? ⟨b,r,none⟩=some (.int .i64 (l.getD r 0)):=za (hk1.blk HB.out hne) r _ (by simp only [List.getElem?_toArray,List.getElem?_map,List.getD_eq_getElem?_getD];rw [List.getElem?_eq_getElem (by omega)];rfl)
 have i1:(r:Int)<(m:Int):=by omega
 go_wp2
 go_ret
 exact ⟨⟨_,rfl⟩,hc1,hk1⟩
end
section
open Go.RowKit
def atV (f:Nat→Value) (q:Nat) (u:Value) (i:Nat):Value:=if i=q then u else f i
theorem atV_at (f:Nat→Value) (q:Nat) (u:Value):atV f q u q=u:=if_pos rfl
theorem atV_ne (f:Nat→Value) (q:Nat) (u:Value) (i:Nat) (h:i≠q):atV f q u i=f i:=if_neg h
theorem zS {w w':World} {row:Option Nat} (h:w.grownBy w' row):zA w w' (fun b=>row=some b):=⟨h.os,h.tape,h.output,h.size,fun i hi hn=>h.block i hi (fun e=>hn e.symm)⟩
end
section
open Go.RowKit
def addP (p:zP) (a b:Int):zP:=⟨p.n+1,fun i=>if i<p.n then p.A i else a,fun i=>if i<p.n then p.B i else b⟩
theorem pairRow_add (p:zP) (a b:Int):zR (addP p a b)=zR p++[.int .i64 a,.int .i64 b]:=by
 unfold zR
 rw [show (addP p a b).n*2=p.n*2+1+1 by show (p.n+1)*2=_;omega,List.range_succ,List.range_succ]
 simp only [List.map_append,List.map_cons,List.map_nil,List.append_assoc,List.cons_append,List.nil_append]
 rw [pairCell_0,pairCell_1]
 have e1:(addP p a b).A p.n=a:=if_neg (Nat.lt_irrefl _)
 have e2:(addP p a b).B p.n=b:=if_neg (Nat.lt_irrefl _)
 rw [e1,e2]
 congr 1
 refine List.map_congr_left fun j hj=>?_
 have hj':j<p.n*2:=by simpa using hj
 have h1:(addP p a b).A (j / 2)=p.A (j / 2):=if_pos (by omega)
 have h2:(addP p a b).B (j / 2)=p.B (j / 2):=if_pos (by omega)
 unfold pairCell
 rw [h1,h2]
def noP:zP:=⟨0,fun _=>0,fun _=>0⟩
theorem own_blk' {w:World} {base e size n:Nat} {v:Value} {xs:List Value} (h:w.ownsRow base e size v n xs) {g:Nat} (hg:v.ownBlock=some g):∃ cur,w.heap[g]?=some (.cells cur e (0,0)):=by
 rcases h.2 with ⟨rfl,_⟩ | ⟨g',cap',cur,rfl,_,hg',_⟩
 ·simp [Value.ownBlock] at hg
 ·simp only [Value.ownBlock,Option.some.injEq] at hg
  subst hg
  exact ⟨cur,hg'⟩
theorem own_not {w:World} {base e size n:Nat} {v:Value} {xs:List Value} (h:w.ownsRow base e size v n xs) {b t:Nat} {cs:Array Value} (hb:w.heap[b]?=some (.cells cs t (0,0))) (hne:e≠t):∀ g,v.ownBlock=some g→¬ g=b:=by
 rintro g hg rfl
 obtain ⟨cur,hc⟩:=own_blk' h hg
 rw [hc] at hb
 simp only [Option.some.injEq,Obj.cells.injEq] at hb
 exact hne hb.2.1
structure TSit (w wr:World) (xb cb:Nat) (ao:Option Addr) (n c a:Nat) (x:Sail) (vl vc:Value):Prop where
 lo:w.heap.size<xb
 box:wr.heap[xb]?=some (.cells #[.int .i64 x.id,.string x.fr,.string x.dst,.int .i64 x.dep,.int .i64 x.arr,vl,vc,.int .i64 x.most] 33 (0,0))
 res:∃ cs:Array Value,cs.size=8∧wr.heap[w.heap.size]?=some (.cells cs 33 (0,0))
 cur:CurX wr cb ao n c a
 kept:zA w wr (fun b=>b=cb)
 la:wr.ownsRow w.heap.size 88 2 vl x.la.n (zR x.la)
 ca:wr.ownsRow w.heap.size 96 2 vc x.ca.n (zR x.ca)
 sz:x.fr.size≤13∧x.dst.size≤13
section
variable {w wr w' : World} {xb cb n c a : Nat} {ao : Option Addr} {x : Sail} {vl vc : Value}
theorem TSit.on {a':Nat} (h:TSit w wr xb cb ao n c a x vl vc) (hcb:cb<w.heap.size) (hc:CurX w' cb ao n c a') (hk:zA wr w' (fun b=>b=cb)):TSit w w' xb cb ao n c a' x vl vc:=by
 obtain ⟨h1,h2,⟨cs,h3,h4⟩,_,h6,h7,h8,h9⟩:=h
 exact ⟨h1,hk.blk h2 (by omega),⟨cs,h3,hk.blk h4 (by omega)⟩,hc,h6.trans hk,hk.own h7 (fun g hg e=>by have e:g=cb:=e;have:=(h7.lt g hg).1;omega),hk.own h8 (fun g hg e=>by have e:g=cb:=e;have:=(h8.lt g hg).1;omega),h9⟩
theorem TSit.below (h:TSit w wr xb cb ao n c a x vl vc) (hb:Below wr.heap.size wr w'):TSit w w' xb cb ao n c a x vl vc:=by
 obtain ⟨h1,h2,⟨cs,h3,h4⟩,h5,h6,h7,h8,h9⟩:=h
 exact ⟨h1,zb h2 hb,⟨cs,h3,zb h4 hb⟩,h5.below hb,h6.trans (zA.of_below hb),zp hb h7,zp hb h8,h9⟩
theorem TSit.more {a':Nat} (h:TSit w wr xb cb ao n c a x vl vc) (ha:a≤a'):TSit w wr xb cb ao n c a' x vl vc:=⟨h.lo,h.box,h.res,h.cur.more ha,h.kept,h.la,h.ca,h.sz⟩
theorem TSit.put (h:TSit w wr xb cb ao n c a x vl vc) (hcb:cb<w.heap.size) (hl:CodeLow w ao n) (i:Nat) (u:Value) {y:Sail} {wl wc:Value}
  (hb:(wr.setCell ⟨xb,i,none⟩ u).heap[xb]?=some (.cells #[.int .i64 y.id,.string y.fr,.string y.dst,.int .i64 y.dep,.int .i64 y.arr,wl,wc,.int .i64 y.most] 33 (0,0)))
  (h7:wr.ownsRow w.heap.size 88 2 wl y.la.n (zR y.la)) (h8:wr.ownsRow w.heap.size 96 2 wc y.ca.n (zR y.ca)) (h9:y.fr.size≤13∧y.dst.size≤13):TSit w (wr.setCell ⟨xb,i,none⟩ u) xb cb ao n c a y wl wc:=by
 have hk:zA wr (wr.setCell ⟨xb,i,none⟩ u) (fun b=>b=xb):=(zA.refl wr (fun b=>b=xb)).set (a:=⟨xb,i,none⟩) rfl u
 have hlo:=h.lo
 obtain ⟨cs,h3,h4⟩:=h.res
 exact ⟨hlo,hb,⟨cs,h3,hk.blk h4 (by omega)⟩,h.cur.far hk (by omega) (fun k hk' b off e1 e2=>by have e2:b=xb:=e2;have:=hl k hk' b off e1;omega),kept_away' h.kept hk (fun b e=>by have e:b=xb:=e;omega),
  hk.own h7 (own_not h7 h.box (by decide)),hk.own h8 (own_not h8 h.box (by decide)),h9⟩
theorem TSit.arr (h:TSit w wr xb cb ao n c a x vl vc) (hcb:cb<w.heap.size) (hl:CodeLow w ao n) (z:Int):TSit w (wr.setCell ⟨xb,4,none⟩ (.int .i64 z)) xb cb ao n c a { x with arr:=z } vl vc:=h.put hcb hl 4 _ (by simpa using zt h.box 4 (.int .i64 z)) h.la h.ca h.sz
theorem TSit.most (h:TSit w wr xb cb ao n c a x vl vc) (hcb:cb<w.heap.size) (hl:CodeLow w ao n) (z:Int):TSit w (wr.setCell ⟨xb,7,none⟩ (.int .i64 z)) xb cb ao n c a { x with most:=z } vl vc:=h.put hcb hl 7 _ (by simpa using zt h.box 7 (.int .i64 z)) h.la h.ca h.sz
theorem TSit.ids (h:TSit w wr xb cb ao n c a x vl vc) (hcb:cb<w.heap.size) (hl:CodeLow w ao n) (z:Int):TSit w (wr.setCell ⟨xb,0,none⟩ (.int .i64 z)) xb cb ao n c a { x with id:=z } vl vc:=h.put hcb hl 0 _ (by simpa using zt h.box 0 (.int .i64 z)) h.la h.ca h.sz
theorem TSit.frs (h:TSit w wr xb cb ao n c a x vl vc) (hcb:cb<w.heap.size) (hl:CodeLow w ao n) (s:ByteArray) (hs:s.size≤13):TSit w (wr.setCell ⟨xb,1,none⟩ (.string s)) xb cb ao n c a { x with fr:=s } vl vc:=h.put hcb hl 1 _ (by simpa using zt h.box 1 (.string s)) h.la h.ca ⟨hs,h.sz.2⟩
theorem TSit.lane {g cap:Nat} (h:TSit w wr xb cb ao n c a x vl vc) (hcb:cb<w.heap.size) (hl:CodeLow w ao n) (p q:Int) (hg:wr.grownBy w' vl.ownBlock) (ho:w'.ownsRow w.heap.size 88 2 (.slice (some ⟨g,0,none⟩) (x.la.n+1) cap) (x.la.n+1) (zR x.la++[.int .i64 p,.int .i64 q])) :
  TSit w (w'.setCell ⟨xb,5,none⟩ (.slice (some ⟨g,0,none⟩) (x.la.n+1) cap)) xb cb ao n c a { x with la:=addP x.la p q } (.slice (some ⟨g,0,none⟩) (x.la.n+1) cap) vc:=by
 have hk:=zS hg
 have hlo:=h.lo
 obtain ⟨cs,h3,h4⟩:=h.res
 have hge:∀ b,vl.ownBlock=some b→w.heap.size≤b:=fun b e=>(h.la.lt b e).1
 have hbox:=hk.blk h.box (fun e=>own_not h.la h.box (by decide) xb e rfl)
 have h4':=hk.blk h4 (fun e=>own_not h.la h4 (by decide) _ e rfl)
 have hc:=h.cur.far hk (fun e=>by have:=hge _ e;omega) (fun k hk' b off e1 e2=>by have:=hge _ e2;have:=hl k hk' b off e1;omega)
 have hkp:=kept_away' h.kept hk hge
 have hca:=hk.own h.ca (fun b hb e=>own_apart h.ca h.la (by decide) b hb e)
 have hk2:zA w' (w'.setCell ⟨xb,5,none⟩ (.slice (some ⟨g,0,none⟩) (x.la.n+1) cap)) (fun b=>b=xb):=(zA.refl w' (fun b=>b=xb)).set (a:=⟨xb,5,none⟩) rfl _
 have ho':w'.ownsRow w.heap.size 88 2 (.slice (some ⟨g,0,none⟩) (x.la.n+1) cap) (x.la.n+1) (zR (addP x.la p q)):=by rw [pairRow_add];exact ho
 exact ⟨hlo,by simpa using zt hbox 5 (.slice (some ⟨g,0,none⟩) (x.la.n+1) cap),⟨cs,h3,hk2.blk h4' (by omega)⟩,hc.far hk2 (by omega) (fun k hk' b off e1 e2=>by have e2:b=xb:=e2;have:=hl k hk' b off e1;omega),kept_away' hkp hk2 (fun b e=>by have e:b=xb:=e;omega),hk2.own ho' (own_not ho' hbox (by decide)),hk2.own hca (own_not hca hbox (by decide)),h.sz⟩
theorem TSit.cab {g cap:Nat} (h:TSit w wr xb cb ao n c a x vl vc) (hcb:cb<w.heap.size) (hl:CodeLow w ao n) (p q:Int) (hg:wr.grownBy w' vc.ownBlock) (ho:w'.ownsRow w.heap.size 96 2 (.slice (some ⟨g,0,none⟩) (x.ca.n+1) cap) (x.ca.n+1) (zR x.ca++[.int .i64 p,.int .i64 q])) :
  TSit w (w'.setCell ⟨xb,6,none⟩ (.slice (some ⟨g,0,none⟩) (x.ca.n+1) cap)) xb cb ao n c a { x with ca:=addP x.ca p q } vl (.slice (some ⟨g,0,none⟩) (x.ca.n+1) cap):=by
 have hk:=zS hg
 have hlo:=h.lo
 obtain ⟨cs,h3,h4⟩:=h.res
 have hge:∀ b,vc.ownBlock=some b→w.heap.size≤b:=fun b e=>(h.ca.lt b e).1
 have hbox:=hk.blk h.box (fun e=>own_not h.ca h.box (by decide) xb e rfl)
 have h4':=hk.blk h4 (fun e=>own_not h.ca h4 (by decide) _ e rfl)
 have hc:=h.cur.far hk (fun e=>by have:=hge _ e;omega) (fun k hk' b off e1 e2=>by have:=hge _ e2;have:=hl k hk' b off e1;omega)
 have hkp:=kept_away' h.kept hk hge
 have hla:=hk.own h.la (fun b hb e=>own_apart h.la h.ca (by decide) b hb e)
 have hk2:zA w' (w'.setCell ⟨xb,6,none⟩ (.slice (some ⟨g,0,none⟩) (x.ca.n+1) cap)) (fun b=>b=xb):=(zA.refl w' (fun b=>b=xb)).set (a:=⟨xb,6,none⟩) rfl _
 have ho':w'.ownsRow w.heap.size 96 2 (.slice (some ⟨g,0,none⟩) (x.ca.n+1) cap) (x.ca.n+1) (zR (addP x.ca p q)):=by rw [pairRow_add];exact ho
 exact ⟨hlo,by simpa using zt hbox 6 (.slice (some ⟨g,0,none⟩) (x.ca.n+1) cap),⟨cs,h3,hk2.blk h4' (by omega)⟩,hc.far hk2 (by omega) (fun k hk' b off e1 e2=>by have e2:b=xb:=e2;have:=hl k hk' b off e1;omega),kept_away' hkp hk2 (fun b e=>by have e:b=xb:=e;omega),hk2.own hla (own_not hla hbox (by decide)),hk2.own ho' (own_not ho' hbox (by decide)),h.sz⟩
end
end
end Go.Proofs.YtgmdnkngnhkgbaaGreat

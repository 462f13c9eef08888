/-
  OWN TEXT: WordI, CutI, KitBx, PartyR, LegsR.
-/
import Derived.Shelf.Strconv.Clone
import Derived.Shelf.Strings.Search2
import Derived.Lib.IndexLaws
import Derived.Test.YtfallpinmhbemaaGreatDoorB38
namespace Go.Proofs.YtfallpinmhbemaaGreatDoor
open Go.RowKit
open Go.Value (int)
open Go.IntKind (i64)
set_option maxHeartbeats 64000000
set_option maxRecDepth 100000
section
open Go.Shelf
shelf_lay LaysM.n316 Nm 316 at Tryz as Tryz.lays316
end Go.Proofs
namespace Go.Proofs.YtfallpinmhbemaaGreatDoor
open Go.RowKit
def WSt (w:World)(b:Nat)(l:List ByteArray):Prop :=
 ∃ (a:Option Addr) (c:Nat),w.heap[b]?=some (.cells #[.slice a l.length c] 94 (0,0))/\l.length<=c/\c<=maxLen /\
  ∀ j x,l[j]?=some x->∃ g off cur,a=some ⟨g,off,none⟩/\w.cell? ⟨g,off+j,none⟩=some (.string x)/\w.heap[g]?=some (.cells cur 9 (0,0))
theorem WSt.kept {w w':World}{b:Nat}{l:List ByteArray}{S:Nat->Prop}(h:WSt w b l)(a:zA w w' S)(o:¬ S b)(d:∀ g cur,w.heap[g]?=some (.cells cur 9 (0,0))->¬ S g):WSt w' b l:=by
 obtain⟨f,c,i,k,m,n⟩:=h;refine⟨f,c,a.blk i o,k,m,fun j x p=>?_⟩
 obtain⟨g,off,cur,e,k1,k2⟩:=n j x p;refine⟨g,off,cur,e,?_,a.blk k2 (d g cur k2)⟩;rw[← k1];exact World.cell?_of_block ((a.blk k2 (d g cur k2)).trans k2.symm)
theorem WSt.below {w w':World}{b:Nat}{l:List ByteArray}(h:WSt w b l)(a:Below w.heap.size w w'):WSt w' b l:=h.kept (zA.of_below (S:=fun _=>False) a) (fun h=>h) (fun _ _ _ h=>h)
theorem zfs {w w':World}{S:Nat->Prop}(h:Ze w)(d:zA w w' S)(c:¬ S 4):Ze w':=by
 unfold Ze Lib.TabIs World.var? at *;rw[Tryz.gPow] at h ⊢;simp only[Option.bind_some] at h ⊢;have b:4<w.heap.size:=by
  rcases Nat.lt_or_ge 4 w.heap.size with a|a
  ·exact a
  ·rw[Array.getElem?_eq_none a] at h;simp at h
 rw[d.block _ b c];exact h
theorem zdB (s:ByteArray)(w:World)(D:s.size<=1048576) :
  Calls Tryz.prog 22 #[.string s] w fun e w'=>∃ b l,e=.returned (.pointer (some ⟨b,0,none⟩))/\w.heap.size<=b/\Hid (WSt w' b l/\Q2 32 s l/\l.length<=s.size+1)/\Below w.heap.size w w':=by
 go_enter Tryz.func22,Tryz.ntmps22;go_wp2_with fail;refine(zaO s 32 _ (by decide) D).mono ?_
 rintro e a ⟨v,l,rfl,f,t,r⟩;obtain⟨i,c,rfl,A,C,hn⟩:=zt f;have q:WSt (a.alloc (.cells #[.slice i l.length c] 94)) a.heap.size l:=by
  refine⟨i,c,heap_alloc_new a _,A,C,fun j x o=>?_⟩
  have hj:j<l.length:=by
   rcases Nat.lt_or_ge j l.length with h|h
   ·exact h
   ·rw[List.getElem?_eq_none h] at o;cases o
  obtain⟨g,rfl,_,B⟩:=qw f (by omega)
  have d:a.cell? ⟨g,j,none⟩=some (.string x):=by rw[World.ownsRow.cellAt f j (by omega),List.getElem?_map,o];rfl
  rcases f.2 with⟨z,_⟩|⟨g',p,cur,u,_,m,_⟩
  ·cases z
  ·simp only[Value.slice.injEq,Option.some.injEq,Addr.mk.injEq] at u
   obtain⟨⟨rfl,_,_⟩,_,rfl⟩:=u;exact⟨g,0,cur,rfl,by rw[Nat.zero_add];exact((zr (Below.refl _ a) _).cell B).trans d,ze m _⟩
 have y:Hid (WSt (a.alloc (.cells #[.slice i l.length c] 94)) a.heap.size l/\Q2 32 s l/\l.length<=s.size+1):=⟨q,t.out⟩;have k:Below w.heap.size w (a.alloc (.cells #[.slice i l.length c] 94)):=zr r _;have n:=r.size;clear q t f;go_wp2;go_ret;exact⟨_,l,rfl,n,y,k⟩
theorem zbm (b:Nat)(l:List ByteArray)(w:World)(h:WSt w b l) :
  Calls Tryz.prog 51 #[.pointer (some ⟨b,0,none⟩)] w fun e w'=>e=.returned (.string (l.headD ⟨#[]⟩))/\Hid (WSt w' b l.tail)/\zA w w' (fun k=>k=b):=by
 cases l with
 | nil =>
  have u:=hI h;obtain⟨G,c,f,_⟩:=h;have C:=za f 0 _ rfl;simp only[List.length_nil] at C;go_enter Tryz.func51,Tryz.ntmps51;go_wp2;go_ret;exact⟨rfl,u,zA.refl _ _⟩
 | cons x r =>
  have u:=hI h;obtain⟨G,c,f,H,I,v⟩:=h;obtain⟨g,off,cur,rfl,k1,k2⟩:=v 0 x rfl;have C:=za f 0 _ rfl;have f0:=zg f 0;rw[List.length_cons] at C H;rw[Nat.add_zero] at k1;have n:g≠b:=fun e=>by
   rw[e,f] at k2;simp only[Option.some.injEq,Obj.cells.injEq] at k2;exact absurd k2.2.1 (by decide)
  have F:=hI v;have D:=hI f;have d0:(((r.length+1:Nat):Int) == 0)=false:=by rw[beq_eq_false_iff_ne];omega
  have d1:(((r.length:Int)+1) == 0)=false:=by rw[beq_eq_false_iff_ne];omega
  have i1:(1:Int)<=(r.length:Int)+1:=by omega
  clear v f I;have p:∀ (q:Option Addr) (s:Nat),s=c - 1->(0<r.length->q=some ⟨g,off+1,none⟩)->WSt (w.setCell ⟨b,0,none⟩ (.slice q r.length s)) b r:=fun q s J z=>by
   refine⟨q,s,zy D.out 0 _,by omega,by have:=u.out;obtain⟨_,c2,t,_,q3,_⟩:=this;rw[D.out] at t;simp at t;omega,fun j y A=>?_⟩
   have hj:j<r.length:=by
    rcases Nat.lt_or_ge j r.length with h|h
    ·exact h
    ·rw[List.getElem?_eq_none h] at A;cases A
   obtain⟨g',E,m,e,t,B⟩:=F.out (j+1) y (by simpa using A)
   simp only[Option.some.injEq,Addr.mk.injEq,and_true] at e;obtain⟨rfl,rfl⟩:=e;refine⟨g,off+1,m,z (by omega),?_,zD B 0 _ n⟩
   rw[show off+1+j=off+(j+1) by omega,← t]
   exact World.cell?_of_block ((zD B 0 _ n).trans B.symm)
  have d:=hI p;clear p
  by_cases hc:c=1
  ·subst hc
   have o:r.length=0:=by omega
   go_enter Tryz.func51,Tryz.ntmps51;go_wp2;go_ret;refine⟨rfl,?_,(zA.refl w (fun k=>k=b)).set (a:=⟨b,0,none⟩) rfl _⟩
   show WSt _ b r
   have i:=d.out (some ⟨g,off,none⟩) 0 rfl (fun h=>by omega)
   rw[o] at i
   first|exact i|(simpa [o] using i)
  ·have K:(c=1)=False:=eq_false hc
   go_enter Tryz.func51,Tryz.ntmps51;go_wp2;go_ret;refine⟨rfl,?_,(zA.refl w (fun k=>k=b)).set (a:=⟨b,0,none⟩) rfl _⟩
   show WSt _ b r
   exact d.out _ _ (by first|rfl|omega) (fun h=>by first|rfl|simp)
theorem name_any (b:Nat)(l:List ByteArray)(w:World)(h:WSt w b l)(hl:(l.headD ⟨#[]⟩).size<=281474976710656) :
  Calls Tryz.prog 53 #[.pointer (some ⟨b,0,none⟩)] w fun e w'=>e=.returned (.string (l.headD ⟨#[]⟩))/\Hid (WSt w' b l.tail)/\zA w w' (fun k=>k=b):=by
 generalize hx:l.headD ⟨#[]⟩=x at hl ⊢;have g:∀ W:World,Calls Tryz.prog 91 #[.string x] W fun e w'=>e=.returned (.string x)/\Below W.heap.size W w':=fun W=>by
  go_enter Tryz.func91,Tryz.ntmps91;go_wp2_with fail;refine(Any.stringslite_Clone Tryz.lays316 x _ hl).mono ?_;rintro e m ⟨rfl,a⟩;go_wp2;go_ret;exact⟨rfl,a⟩
 have i:=hI g;have d:=zbm b l w h;rw[hx] at d;clear g hx h;go_enter Tryz.func53,Tryz.ntmps53;go_wp2_with fail;refine d.mono ?_;clear d;rintro e m ⟨rfl,f,j⟩;go_wp2_with fail;refine(i.out _).mono ?_;rintro e w3 ⟨rfl,a⟩;have c:=hI (f.out.below a);clear f;go_wp2;go_ret;exact⟨rfl,c,j.trans (zA.of_below a)⟩
theorem ziz (b:Nat)(l:List ByteArray)(w:World)(h:WSt w b l)(i:Ze w)(o:4≠b) :
  Calls Tryz.prog 52 #[.pointer (some ⟨b,0,none⟩)] w fun e w'=>e=.returned (int i64 (zI (l.headD ⟨#[]⟩)))/\Hid (WSt w' b l.tail)/\zA w w' (fun k=>k=b):=by
 generalize hx:l.headD ⟨#[]⟩=x;have n:=hI i;have f:=zbm b l w h;rw[hx] at f;clear h i hx;go_enter Tryz.func52,Tryz.ntmps52;go_wp2_with fail;refine f.mono ?_;clear f;rintro e p ⟨rfl,g,m⟩;have a:Ze p:=zfs (S:=fun k=>k=b) n.out m o
 have c:=hI a;clear a;go_wp2_with fail;refine(ZO x _ c.out).mono ?_;rintro e w3 ⟨rfl,j⟩;have d:=hI (g.out.below j);clear g;go_wp2;go_ret;exact⟨rfl,d,m.trans (zA.of_below j)⟩
end
section
open Go.Shelf
shelf_lay Lays.n219 Nm 219 at Tryz as Tryz.lays219
end Go.Proofs
namespace Go.Proofs.YtfallpinmhbemaaGreatDoor
open Go.RowKit
def zbw (p:UInt8)(s:ByteArray):Bool:=decide (0<=Lib.indexByte s.data.toList p)
def Z4 (p:UInt8)(s:ByteArray):ByteArray:=if zbw p s=true then s.extract 0 (Lib.indexByte s.data.toList p).toNat else s
def Z5 (p:UInt8)(s:ByteArray):ByteArray:=if zbw p s=true then s.extract ((Lib.indexByte s.data.toList p).toNat+1) s.size else ⟨#[]⟩
theorem zhP {p:UInt8}{s:ByteArray}{o:Nat}(h:Lib.indexByte s.data.toList p=o):o<s.size:=by
 have b:=(Lib.indexByte_some h).1
 rcases Nat.lt_or_ge o s.data.toList.length with a|a
 ·rwa [Array.length_toList] at a
 ·rw[List.getElem?_eq_none a] at b;cases b
theorem cut_is (p:UInt8)(s:ByteArray):zgv p s (Z4 p s) (Z5 p s) (zbw p s):=by
 have hl:s.data.toList.length=s.size:=Array.length_toList
 by_cases h:0<=Lib.indexByte s.data.toList p
 ·obtain⟨o,d⟩:=Int.eq_ofNat_of_zero_le h
  have a:zbw p s=true:=decide_eq_true h;have j:=zhP d;obtain⟨e,f⟩:=Lib.indexByte_some d;unfold zgv Z4 Z5;rw[if_pos a,if_pos a,d,Int.toNat_natCast,zdc,zdc];refine⟨?_,.inl ⟨a,?_⟩⟩
  ·intro c
   obtain⟨i,b⟩:=List.mem_iff_getElem?.1 c;rw[List.getElem?_take] at b
   split at b
   ·rename_i hlt2
    simp at b hlt2;exact f i hlt2 (by simpa using b)
   ·cases b
  ·rw[Nat.sub_zero,List.drop_zero,List.take_of_length_le (l:=List.drop (o+1) s.data.toList) (by rw[List.length_drop];omega)]
   have g:s.data.toList.drop o=p :: s.data.toList.drop (o+1):=by
    rw[List.drop_eq_getElem_cons (by omega)]
    rw[List.getElem?_eq_getElem (by omega)] at e
    congr 1
    simpa using e
   rw[← g,List.take_append_drop]
 ·have a:zbw p s=false:=decide_eq_false h
  have hn:Lib.indexByte s.data.toList p=-1:=by have:=Lib.indexByte_ge s.data.toList p;omega
  unfold zgv Z4 Z5;rw[if_neg (by rw[a];decide),if_neg (by rw[a];decide)]
  refine⟨fun c=>?_,.inr ⟨a,rfl,rfl⟩⟩
  obtain⟨i,b⟩:=List.mem_iff_getElem?.1 c;exact Lib.indexByte_none hn i b
theorem zhQ (p:UInt8)(s:ByteArray):(Z4 p s).size<=s.size/\(Z5 p s).size<=s.size:=by
 unfold Z4 Z5
 constructor
 ·split
  ·rw[ByteArray.size_extract];omega
  ·exact Nat.le_refl _
 ·split
  ·rw[ByteArray.size_extract];omega
  ·exact Nat.zero_le _
theorem zhv (s:ByteArray)(p:UInt8)(w:World)(hs:s.size<=1000000000000) :
  Calls Tryz.prog 109 #[.string s,.string ⟨#[p]⟩] w fun e w'=>e=.returned (.tuple #[.string (Z4 p s),.string (Z5 p s),.bool (zbw p s)])/\Below w.heap.size w w':=by
 have f:=Lib.indexByte_ge s.data.toList p;have h1:(⟨#[p]⟩:ByteArray).size=1:=rfl
 by_cases h:0<=Lib.indexByte s.data.toList p
 ·obtain⟨o,g⟩:=Int.eq_ofNat_of_zero_le h
  have b:zbw p s=true:=decide_eq_true h;have i:=zhP g;have c:Hid (Z4 p s=s.extract 0 o/\Z5 p s=s.extract (o+1) s.size/\zbw p s=true):=by
   refine⟨?_,?_,b⟩
   ·unfold Z4;rw[if_pos b,g,Int.toNat_natCast]
   ·unfold Z5;rw[if_pos b,g,Int.toNat_natCast]
  have d:=Any.stringslite_Index_one Tryz.lays219 s p w;rw[g] at d;have j:(0:Int)<=(o:Int):=by omega
  have i2:(o:Int)<=(s.size:Int):=by omega
  have i3:(o:Int)+1<=(s.size:Int):=by omega
  have i4:(0:Int)<=(o:Int)+1:=by omega
  have hw:IntKind.i64.wrap ((o:Int)+1)=(o:Int)+1:=by rw[IntKind.wrap_i64];omega
  have ht:((o:Int)+1).toNat=o+1:=by omega
  have dg:decide ((0:Int)<=(o:Int))=true:=decide_eq_true j;clear h b g f;go_enter Tryz.func109,Tryz.ntmps109;go_wp2_with fail;refine d.mono ?_;clear d;rintro e k ⟨rfl,a⟩;have a:=a.symm;subst a;go_upto_region 3 with fail;go_quiet (fail);go_wp2;exact bodyPost_ret (v:=.tuple #[.string (s.extract 0 o),.string (s.extract (o+1) s.size),.bool true]) (by simp[results,Tryz.results109,go_sem]) rfl ⟨by rw[c.out.1,c.out.2.1,c.out.2.2],below_drewN bZ _⟩
 ·have hn:Lib.indexByte s.data.toList p=-1:=by omega
  have b:zbw p s=false:=decide_eq_false h;have c:Hid (Z4 p s=s/\Z5 p s=⟨#[]⟩/\zbw p s=false):=by
   refine⟨?_,?_,b⟩
   ·unfold Z4;rw[if_neg (by rw[b];decide)]
   ·unfold Z5;rw[if_neg (by rw[b];decide)]
  have d:=Any.stringslite_Index_one Tryz.lays219 s p w;rw[hn] at d;clear h b hn f;go_enter Tryz.func109,Tryz.ntmps109;go_wp2_with fail;refine d.mono ?_;clear d;rintro e k ⟨rfl,a⟩;have a:=a.symm;subst a;go_wp2;exact bodyPost_ret (v:=.tuple #[.string s,.string ⟨#[]⟩,.bool false]) (by simp[results,Tryz.results109,go_sem]) rfl ⟨by rw[c.out.1,c.out.2.1,c.out.2.2],bZ⟩
theorem zft (s:ByteArray)(p:UInt8)(w:World)(g:s.size<=1000000000000) :
  Calls Tryz.prog 92 #[.string s,.string ⟨#[p]⟩] w fun e w'=>e=.returned (.tuple #[.string (Z4 p s),.string (Z5 p s),.bool (zbw p s)])/\Below w.heap.size w w':=by
 have c:=zhv s p w g;generalize Z4 p s=a at c ⊢;generalize Z5 p s=b at c ⊢;generalize zbw p s=f at c ⊢;go_enter Tryz.func92,Tryz.ntmps92;go_wp2_with fail;refine c.mono ?_;rintro e w2 ⟨rfl,d⟩;go_wp2;exact bodyPost_ret (v:=.tuple #[.string a,.string b,.bool f]) (by simp[results,Tryz.results92,go_sem]) rfl ⟨rfl,d⟩
theorem zcy (s:ByteArray)(w:World)(j:s.size<=1000000000000)(h:Ze w) :
  Calls Tryz.prog 93 #[.string s] w fun e w'=>e=.returned (.tuple #[int i64 (zI (Z4 47 s)),int i64 (zI (Z5 47 s))])/\Below w.heap.size w w':=by
 have g:=hI h;have d:=zft s 47 w j;clear h;generalize Z4 47 s=a at d ⊢;generalize Z5 47 s=b at d ⊢;go_enter Tryz.func93,Tryz.ntmps93;go_wp2_with fail;refine d.mono ?_;clear d;rintro e w2 ⟨rfl,i⟩;go_wp2_with fail;refine(ZO a _ (g.out.below i)).mono ?_;rintro e w3 ⟨rfl,c⟩;have c:=zj i c;go_wp2_with fail;refine(ZO b _ (g.out.below c)).mono ?_;rintro e w4 ⟨rfl,f⟩;go_wp2;exact bodyPost_ret (v:=.tuple #[int i64 (zI a),int i64 (zI b)]) (by simp[results,Tryz.results93,go_sem]) rfl ⟨rfl,zj c f⟩
end
theorem box_6 {w:World}{b t:Nat}{u m l k i g:Value}(h:w.heap[b]?=some (.cells #[u,m,l,k,i,g] t (0,0)))(a c d e f j:Value) :
  (World.setCell (World.setCell (World.setCell (World.setCell (World.setCell (World.setCell w ⟨b,0,none⟩ a) ⟨b,1,none⟩ c) ⟨b,2,none⟩ d) ⟨b,3,none⟩ e) ⟨b,4,none⟩ f) ⟨b,5,none⟩ j).heap[b]?=some (.cells #[a,c,d,e,f,j] t (0,0)):=by
 have n:(World.setCell w ⟨b,0,none⟩ a).heap[b]?=some (.cells #[a,m,l,k,i,g] t (0,0)):=by simpa using zy h 0 a
 have o:(World.setCell (World.setCell w ⟨b,0,none⟩ a) ⟨b,1,none⟩ c).heap[b]?=some (.cells #[a,c,l,k,i,g] t (0,0)):=by simpa using zy n 1 c
 have p:(World.setCell (World.setCell (World.setCell w ⟨b,0,none⟩ a) ⟨b,1,none⟩ c) ⟨b,2,none⟩ d).heap[b]?=some (.cells #[a,c,d,k,i,g] t (0,0)):=by simpa using zy o 2 d
 have q:(World.setCell (World.setCell (World.setCell (World.setCell w ⟨b,0,none⟩ a) ⟨b,1,none⟩ c) ⟨b,2,none⟩ d) ⟨b,3,none⟩ e).heap[b]?=some (.cells #[a,c,d,e,i,g] t (0,0)):=by simpa using zy p 3 e
 have r:(World.setCell (World.setCell (World.setCell (World.setCell (World.setCell w ⟨b,0,none⟩ a) ⟨b,1,none⟩ c) ⟨b,2,none⟩ d) ⟨b,3,none⟩ e) ⟨b,4,none⟩ f).heap[b]?=some (.cells #[a,c,d,e,f,g] t (0,0)):=by simpa using zy q 4 f
 have s:(World.setCell (World.setCell (World.setCell (World.setCell (World.setCell (World.setCell w ⟨b,0,none⟩ a) ⟨b,1,none⟩ c) ⟨b,2,none⟩ d) ⟨b,3,none⟩ e) ⟨b,4,none⟩ f) ⟨b,5,none⟩ j).heap[b]?=some (.cells #[a,c,d,e,f,j] t (0,0)):=by simpa using zy r 5 j
 exact s
theorem keep_6 (w:World)(b:Nat)(c d e f g h:Value):zA w (World.setCell (World.setCell (World.setCell (World.setCell (World.setCell (World.setCell w ⟨b,0,none⟩ c) ⟨b,1,none⟩ d) ⟨b,2,none⟩ e) ⟨b,3,none⟩ f) ⟨b,4,none⟩ g) ⟨b,5,none⟩ h) (fun k=>k=b):=(((((((zA.refl w (fun k=>k=b)).set (a:=⟨b,0,none⟩) rfl c).set (a:=⟨b,1,none⟩) rfl d).set (a:=⟨b,2,none⟩) rfl e).set (a:=⟨b,3,none⟩) rfl f).set (a:=⟨b,4,none⟩) rfl g).set (a:=⟨b,5,none⟩) rfl h)
theorem box_8 {w:World}{b t:Nat}{A q p o m l j i:Value}(h:w.heap[b]?=some (.cells #[A,q,p,o,m,l,j,i] t (0,0)))(a c d e f g k n:Value) :
  (World.setCell (World.setCell (World.setCell (World.setCell (World.setCell (World.setCell (World.setCell (World.setCell w ⟨b,0,none⟩ a) ⟨b,1,none⟩ c) ⟨b,2,none⟩ d) ⟨b,3,none⟩ e) ⟨b,4,none⟩ f) ⟨b,5,none⟩ g) ⟨b,6,none⟩ k) ⟨b,7,none⟩ n).heap[b]?=some (.cells #[a,c,d,e,f,g,k,n] t (0,0)):=by
 have r:(World.setCell w ⟨b,0,none⟩ a).heap[b]?=some (.cells #[a,q,p,o,m,l,j,i] t (0,0)):=by simpa using zy h 0 a
 have s:(World.setCell (World.setCell w ⟨b,0,none⟩ a) ⟨b,1,none⟩ c).heap[b]?=some (.cells #[a,c,p,o,m,l,j,i] t (0,0)):=by simpa using zy r 1 c
 have u:(World.setCell (World.setCell (World.setCell w ⟨b,0,none⟩ a) ⟨b,1,none⟩ c) ⟨b,2,none⟩ d).heap[b]?=some (.cells #[a,c,d,o,m,l,j,i] t (0,0)):=by simpa using zy s 2 d
 have v:(World.setCell (World.setCell (World.setCell (World.setCell w ⟨b,0,none⟩ a) ⟨b,1,none⟩ c) ⟨b,2,none⟩ d) ⟨b,3,none⟩ e).heap[b]?=some (.cells #[a,c,d,e,m,l,j,i] t (0,0)):=by simpa using zy u 3 e
 have x:(World.setCell (World.setCell (World.setCell (World.setCell (World.setCell w ⟨b,0,none⟩ a) ⟨b,1,none⟩ c) ⟨b,2,none⟩ d) ⟨b,3,none⟩ e) ⟨b,4,none⟩ f).heap[b]?=some (.cells #[a,c,d,e,f,l,j,i] t (0,0)):=by simpa using zy v 4 f
 have y:(World.setCell (World.setCell (World.setCell (World.setCell (World.setCell (World.setCell w ⟨b,0,none⟩ a) ⟨b,1,none⟩ c) ⟨b,2,none⟩ d) ⟨b,3,none⟩ e) ⟨b,4,none⟩ f) ⟨b,5,none⟩ g).heap[b]?=some (.cells #[a,c,d,e,f,g,j,i] t (0,0)):=by simpa using zy x 5 g
 have z:(World.setCell (World.setCell (World.setCell (World.setCell (World.setCell (World.setCell (World.setCell w ⟨b,0,none⟩ a) ⟨b,1,none⟩ c) ⟨b,2,none⟩ d) ⟨b,3,none⟩ e) ⟨b,4,none⟩ f) ⟨b,5,none⟩ g) ⟨b,6,none⟩ k).heap[b]?=some (.cells #[a,c,d,e,f,g,k,i] t (0,0)):=by simpa using zy y 6 k
 have h7:(World.setCell (World.setCell (World.setCell (World.setCell (World.setCell (World.setCell (World.setCell (World.setCell w ⟨b,0,none⟩ a) ⟨b,1,none⟩ c) ⟨b,2,none⟩ d) ⟨b,3,none⟩ e) ⟨b,4,none⟩ f) ⟨b,5,none⟩ g) ⟨b,6,none⟩ k) ⟨b,7,none⟩ n).heap[b]?=some (.cells #[a,c,d,e,f,g,k,n] t (0,0)):=by simpa using zy z 7 n
 exact h7
theorem keep_8 (w:World)(b:Nat)(c d e f g h i j:Value):zA w (World.setCell (World.setCell (World.setCell (World.setCell (World.setCell (World.setCell (World.setCell (World.setCell w ⟨b,0,none⟩ c) ⟨b,1,none⟩ d) ⟨b,2,none⟩ e) ⟨b,3,none⟩ f) ⟨b,4,none⟩ g) ⟨b,5,none⟩ h) ⟨b,6,none⟩ i) ⟨b,7,none⟩ j) (fun k=>k=b):=(((((((((zA.refl w (fun k=>k=b)).set (a:=⟨b,0,none⟩) rfl c).set (a:=⟨b,1,none⟩) rfl d).set (a:=⟨b,2,none⟩) rfl e).set (a:=⟨b,3,none⟩) rfl f).set (a:=⟨b,4,none⟩) rfl g).set (a:=⟨b,5,none⟩) rfl h).set (a:=⟨b,6,none⟩) rfl i).set (a:=⟨b,7,none⟩) rfl j)
theorem box_12 {w:World}{b t:Nat}{L C B y x v u s q p e c:Value}(h:w.heap[b]?=some (.cells #[L,C,B,y,x,v,u,s,q,p,e,c] t (0,0)))(a d f g i j l m o r k n:Value) :
  (World.setCell (World.setCell (World.setCell (World.setCell (World.setCell (World.setCell (World.setCell (World.setCell (World.setCell (World.setCell (World.setCell (World.setCell w ⟨b,0,none⟩ a) ⟨b,1,none⟩ d) ⟨b,2,none⟩ f) ⟨b,3,none⟩ g) ⟨b,4,none⟩ i) ⟨b,5,none⟩ j) ⟨b,6,none⟩ l) ⟨b,7,none⟩ m) ⟨b,8,none⟩ o) ⟨b,9,none⟩ r) ⟨b,10,none⟩ k) ⟨b,11,none⟩ n).heap[b]?=some (.cells #[a,d,f,g,i,j,l,m,o,r,k,n] t (0,0)):=by
 have D:(World.setCell w ⟨b,0,none⟩ a).heap[b]?=some (.cells #[a,C,B,y,x,v,u,s,q,p,e,c] t (0,0)):=by simpa using zy h 0 a
 have E:(World.setCell (World.setCell w ⟨b,0,none⟩ a) ⟨b,1,none⟩ d).heap[b]?=some (.cells #[a,d,B,y,x,v,u,s,q,p,e,c] t (0,0)):=by simpa using zy D 1 d
 have F:(World.setCell (World.setCell (World.setCell w ⟨b,0,none⟩ a) ⟨b,1,none⟩ d) ⟨b,2,none⟩ f).heap[b]?=some (.cells #[a,d,f,y,x,v,u,s,q,p,e,c] t (0,0)):=by simpa using zy E 2 f
 have G:(World.setCell (World.setCell (World.setCell (World.setCell w ⟨b,0,none⟩ a) ⟨b,1,none⟩ d) ⟨b,2,none⟩ f) ⟨b,3,none⟩ g).heap[b]?=some (.cells #[a,d,f,g,x,v,u,s,q,p,e,c] t (0,0)):=by simpa using zy F 3 g
 have H:(World.setCell (World.setCell (World.setCell (World.setCell (World.setCell w ⟨b,0,none⟩ a) ⟨b,1,none⟩ d) ⟨b,2,none⟩ f) ⟨b,3,none⟩ g) ⟨b,4,none⟩ i).heap[b]?=some (.cells #[a,d,f,g,i,v,u,s,q,p,e,c] t (0,0)):=by simpa using zy G 4 i
 have I:(World.setCell (World.setCell (World.setCell (World.setCell (World.setCell (World.setCell w ⟨b,0,none⟩ a) ⟨b,1,none⟩ d) ⟨b,2,none⟩ f) ⟨b,3,none⟩ g) ⟨b,4,none⟩ i) ⟨b,5,none⟩ j).heap[b]?=some (.cells #[a,d,f,g,i,j,u,s,q,p,e,c] t (0,0)):=by simpa using zy H 5 j
 have J:(World.setCell (World.setCell (World.setCell (World.setCell (World.setCell (World.setCell (World.setCell w ⟨b,0,none⟩ a) ⟨b,1,none⟩ d) ⟨b,2,none⟩ f) ⟨b,3,none⟩ g) ⟨b,4,none⟩ i) ⟨b,5,none⟩ j) ⟨b,6,none⟩ l).heap[b]?=some (.cells #[a,d,f,g,i,j,l,s,q,p,e,c] t (0,0)):=by simpa using zy I 6 l
 have h7:(World.setCell (World.setCell (World.setCell (World.setCell (World.setCell (World.setCell (World.setCell (World.setCell w ⟨b,0,none⟩ a) ⟨b,1,none⟩ d) ⟨b,2,none⟩ f) ⟨b,3,none⟩ g) ⟨b,4,none⟩ i) ⟨b,5,none⟩ j) ⟨b,6,none⟩ l) ⟨b,7,none⟩ m).heap[b]?=some (.cells #[a,d,f,g,i,j,l,m,q,p,e,c] t (0,0)):=by simpa using zy J 7 m
 have h8:(World.setCell (World.setCell (World.setCell (World.setCell (World.setCell (World.setCell (World.setCell (World.setCell (World.setCell w ⟨b,0,none⟩ a) ⟨b,1,none⟩ d) ⟨b,2,none⟩ f) ⟨b,3,none⟩ g) ⟨b,4,none⟩ i) ⟨b,5,none⟩ j) ⟨b,6,none⟩ l) ⟨b,7,none⟩ m) ⟨b,8,none⟩ o).heap[b]?=some (.cells #[a,d,f,g,i,j,l,m,o,p,e,c] t (0,0)):=by simpa using zy h7 8 o
 have K:(World.setCell (World.setCell (World.setCell (World.setCell (World.setCell (World.setCell (World.setCell (World.setCell (World.setCell (World.setCell w ⟨b,0,none⟩ a) ⟨b,1,none⟩ d) ⟨b,2,none⟩ f) ⟨b,3,none⟩ g) ⟨b,4,none⟩ i) ⟨b,5,none⟩ j) ⟨b,6,none⟩ l) ⟨b,7,none⟩ m) ⟨b,8,none⟩ o) ⟨b,9,none⟩ r).heap[b]?=some (.cells #[a,d,f,g,i,j,l,m,o,r,e,c] t (0,0)):=by simpa using zy h8 9 r
 have z:(World.setCell (World.setCell (World.setCell (World.setCell (World.setCell (World.setCell (World.setCell (World.setCell (World.setCell (World.setCell (World.setCell w ⟨b,0,none⟩ a) ⟨b,1,none⟩ d) ⟨b,2,none⟩ f) ⟨b,3,none⟩ g) ⟨b,4,none⟩ i) ⟨b,5,none⟩ j) ⟨b,6,none⟩ l) ⟨b,7,none⟩ m) ⟨b,8,none⟩ o) ⟨b,9,none⟩ r) ⟨b,10,none⟩ k).heap[b]?=some (.cells #[a,d,f,g,i,j,l,m,o,r,k,c] t (0,0)):=by simpa using zy K 10 k
 have A:(World.setCell (World.setCell (World.setCell (World.setCell (World.setCell (World.setCell (World.setCell (World.setCell (World.setCell (World.setCell (World.setCell (World.setCell w ⟨b,0,none⟩ a) ⟨b,1,none⟩ d) ⟨b,2,none⟩ f) ⟨b,3,none⟩ g) ⟨b,4,none⟩ i) ⟨b,5,none⟩ j) ⟨b,6,none⟩ l) ⟨b,7,none⟩ m) ⟨b,8,none⟩ o) ⟨b,9,none⟩ r) ⟨b,10,none⟩ k) ⟨b,11,none⟩ n).heap[b]?=some (.cells #[a,d,f,g,i,j,l,m,o,r,k,n] t (0,0)):=by simpa using zy z 11 n
 exact A
theorem zhw (w:World)(b:Nat)(e f g h i j l m n o c d:Value):zA w (World.setCell (World.setCell (World.setCell (World.setCell (World.setCell (World.setCell (World.setCell (World.setCell (World.setCell (World.setCell (World.setCell (World.setCell w ⟨b,0,none⟩ e) ⟨b,1,none⟩ f) ⟨b,2,none⟩ g) ⟨b,3,none⟩ h) ⟨b,4,none⟩ i) ⟨b,5,none⟩ j) ⟨b,6,none⟩ l) ⟨b,7,none⟩ m) ⟨b,8,none⟩ n) ⟨b,9,none⟩ o) ⟨b,10,none⟩ c) ⟨b,11,none⟩ d) (fun k=>k=b):=(((((((((((((zA.refl w (fun k=>k=b)).set (a:=⟨b,0,none⟩) rfl e).set (a:=⟨b,1,none⟩) rfl f).set (a:=⟨b,2,none⟩) rfl g).set (a:=⟨b,3,none⟩) rfl h).set (a:=⟨b,4,none⟩) rfl i).set (a:=⟨b,5,none⟩) rfl j).set (a:=⟨b,6,none⟩) rfl l).set (a:=⟨b,7,none⟩) rfl m).set (a:=⟨b,8,none⟩) rfl n).set (a:=⟨b,9,none⟩) rfl o).set (a:=⟨b,10,none⟩) rfl c).set (a:=⟨b,11,none⟩) rfl d)
section
open Go.RowKit
noncomputable def zcb (s:ByteArray):Zf :=
 ⟨zI (Z4 43 (Z4 64 s)),if zbw 43 (Z4 64 s) then zI (Z4 47 (Z5 43 (Z4 64 s))) else 0,if zbw 43 (Z4 64 s) then zI (Z5 47 (Z5 43 (Z4 64 s))) else 0,
  if zbw 64 s then zI (Z4 120 (Z5 64 s)) else 0,if zbw 64 s then !(zbw 120 (Z5 64 s)) else false,if zbw 64 s && zbw 120 (Z5 64 s) then zI (Z5 120 (Z5 64 s)) else 0⟩
structure PBx (w d:World)(c a:Nat)(p:Zf):Prop where
 r:d.heap[c]?=some (.cells #[int i64 0,int i64 0,int i64 0,int i64 0,.bool false,int i64 0] 25 (0,0))
 b:d.heap[a]?=some (.cells #[int i64 p.pe,int i64 p.len,int i64 p.hei,int i64 p.cl,.bool p.all,int i64 p.be] 25 (0,0))
 ne:c≠a
 lo:w.heap.size<=c/\w.heap.size<=a
 bel:Below w.heap.size w d
section
variable {w wx wy : World} {rb pb : Nat} {p : Zf}
theorem PBx.below (h:PBx w wx rb pb p)(a:Below wx.heap.size wx wy):PBx w wy rb pb p:=⟨zc h.r a,zc h.b a,h.ne,h.lo,zj h.bel a⟩
theorem PBx.len (h:PBx w wx rb pb p)(v:Int):PBx w (wx.setCell ⟨pb,1,none⟩ (int i64 v)) rb pb { p with len:=v } :=
 ⟨zD h.r 1 _ h.ne,(by simpa using zy h.b 1 (int i64 v)),h.ne,h.lo,h.bel.setCell h.lo.2 _⟩
theorem PBx.hei (h:PBx w wx rb pb p)(v:Int):PBx w (wx.setCell ⟨pb,2,none⟩ (int i64 v)) rb pb { p with hei:=v } :=
 ⟨zD h.r 2 _ h.ne,(by simpa using zy h.b 2 (int i64 v)),h.ne,h.lo,h.bel.setCell h.lo.2 _⟩
theorem PBx.cl (h:PBx w wx rb pb p)(v:Int):PBx w (wx.setCell ⟨pb,3,none⟩ (int i64 v)) rb pb { p with cl:=v } :=
 ⟨zD h.r 3 _ h.ne,(by simpa using zy h.b 3 (int i64 v)),h.ne,h.lo,h.bel.setCell h.lo.2 _⟩
theorem PBx.all (h:PBx w wx rb pb p)(v:Bool):PBx w (wx.setCell ⟨pb,4,none⟩ (.bool v)) rb pb { p with all:=v } :=
 ⟨zD h.r 4 _ h.ne,(by simpa using zy h.b 4 (.bool v)),h.ne,h.lo,h.bel.setCell h.lo.2 _⟩
theorem PBx.be (h:PBx w wx rb pb p)(v:Int):PBx w (wx.setCell ⟨pb,5,none⟩ (int i64 v)) rb pb { p with be:=v } :=
 ⟨zD h.r 5 _ h.ne,(by simpa using zy h.b 5 (int i64 v)),h.ne,h.lo,h.bel.setCell h.lo.2 _⟩
end
theorem partyDone {w b:World}{a l:Nat}{p:Zf}(h:PBx w b a l p)(c d f g i j:Value):Below w.heap.size w (World.setCell (World.setCell (World.setCell (World.setCell (World.setCell (World.setCell b ⟨a,0,none⟩ c) ⟨a,1,none⟩ d) ⟨a,2,none⟩ f) ⟨a,3,none⟩ g) ⟨a,4,none⟩ i) ⟨a,5,none⟩ j) :=
 zA.below h.bel h.bel.size (keep_6 b a c d f g i j) (fun k e=>by have e:k=a:=e;rw[e];exact h.lo.1)
theorem zhx (s:ByteArray)(w:World)(hs:s.size<=1000000000)(hP:Ze w) :
  Calls Tryz.prog 56 #[.string s] w fun e w'=>e=.returned (.agg #[int i64 (zcb s).pe,int i64 (zcb s).len,int i64 (zcb s).hei,int i64 (zcb s).cl,.bool (zcb s).all,int i64 (zcb s).be])/\Below w.heap.size w w':=by
 have Q:=hI hP;clear hP;have O:=zhQ 64 s;have P:=zhQ 43 (Z4 64 s);have E:=fun W=>zft s 64 W (by omega)
 have A:=fun W=>zft (Z4 64 s) 43 W (by omega)
 have F:=fun W t=>zcy (Z5 43 (Z4 64 s)) W (by omega) t
 have B:=fun W=>zft (Z5 64 s) 120 W (by omega)
 have T:=fun W t=>ZO (Z4 43 (Z4 64 s)) W t
 have U:=fun W t=>ZO (Z4 120 (Z5 64 s)) W t
 have n3:=fun W t=>ZO (Z5 120 (Z5 64 s)) W t
 have m:zcb s=⟨zI (Z4 43 (Z4 64 s)),if zbw 43 (Z4 64 s) then zI (Z4 47 (Z5 43 (Z4 64 s))) else 0,if zbw 43 (Z4 64 s) then zI (Z5 47 (Z5 43 (Z4 64 s))) else 0,
  if zbw 64 s then zI (Z4 120 (Z5 64 s)) else 0,if zbw 64 s then !(zbw 120 (Z5 64 s)) else false,if zbw 64 s && zbw 120 (Z5 64 s) then zI (Z5 120 (Z5 64 s)) else 0⟩:=rfl
 generalize zcb s=R at m ⊢;generalize zI (Z4 47 (Z5 43 (Z4 64 s)))=m1 at F m;generalize zI (Z5 47 (Z5 43 (Z4 64 s)))=m2 at F m;generalize zI (Z4 43 (Z4 64 s))=L at T m;generalize zI (Z4 120 (Z5 64 s))=m3 at U m;generalize zI (Z5 120 (Z5 64 s))=m4 at n3 m;generalize zbw 120 (Z5 64 s)=f3 at B m;generalize zbw 43 (Z4 64 s)=G at A m;generalize zbw 64 s=S at E m;generalize Z4 120 (Z5 64 s)=a3 at B U;generalize Z5 120 (Z5 64 s)=b3 at B n3;generalize Z4 43 (Z4 64 s)=a2 at A T;generalize Z5 43 (Z4 64 s)=b2 at A F P;generalize Z5 64 s=b1 at E B O;generalize Z4 64 s=a1 at E A O P;have C1:Hid _:=E;have C2:Hid _:=A;have C3:Hid _:=F;have C4:Hid _:=B;have N1:Hid _:=T;have N2:Hid _:=U;have N3:Hid _:=n3;have HR:=hI m;clear E A F B T U n3 m O P;have hr:=heap_alloc_new w (.cells #[int i64 0,int i64 0,int i64 0,int i64 0,.bool false,int i64 0] 25);have u:Below w.heap.size w (w.alloc (.cells #[int i64 0,int i64 0,int i64 0,int i64 0,.bool false,int i64 0] 25)):=zr bZ _;go_enter Tryz.func56,Tryz.ntmps56;go_upto_region 1 with fail;generalize w.alloc (.cells #[int i64 0,int i64 0,int i64 0,int i64 0,.bool false,int i64 0] 25)=W at hr u ⊢;go_wp2_with fail;refine(C1.out _).mono ?_;rintro e w1 ⟨rfl,g⟩;have J:=zc hr g;have H:=zj u g;clear hr u g;go_wp2_with fail;refine(C2.out _).mono ?_;rintro e w2 ⟨rfl,g⟩;have K:=zc J g;have x:=zj H g;clear J H g;go_wp2_with fail;refine(N1.out _ (Q.out.below x)).mono ?_;rintro e N ⟨rfl,g⟩;have y:=zc K g;have I:=zj x g;have a0:=zZ y;have o:Hid (PBx w (N.alloc (.cells #[int i64 L,int i64 0,int i64 0,int i64 0,.bool false,int i64 0] 25)) w.heap.size N.heap.size ⟨L,0,0,0,false,0⟩) :=
  ⟨ze y _,heap_alloc_new N _,by omega,⟨Nat.le_refl _,by omega⟩,zr I _⟩
 clear K x g y I;go_upto_region 4 with fail;generalize N.alloc (.cells #[int i64 L,int i64 0,int i64 0,int i64 0,.bool false,int i64 0] 25)=W3 at o ⊢;generalize N.heap.size=M at o ⊢;go_upto_if 28 with fail;go_cut [] (fun wx=>Hid (PBx w wx w.heap.size M ⟨L,if G then m1 else 0,if G then m2 else 0,0,false,0⟩))
 case first =>
  cases G with
  | false =>
   go_wp2;go_meet;exact o.out
  | true =>
   go_wp2_with fail;refine(C3.out _ (Q.out.below o.out.bel)).mono ?_;rintro e w4 ⟨rfl,g⟩;have j:Hid _:=o.out.below g;have b4:=j.out.b;have x1:=za b4 1 _ rfl;have x2:=za b4 2 _ rfl;have g1:=zg b4 1;have g2:=zg b4 2;have k:Hid _:=(j.out.len m1).hei m2;clear b4 o;go_wp2;go_meet;exact k.out
 case rest =>
 have z:=hcut;clear hcut o;obtain⟨q,hq⟩:∃ q:Zf,q=⟨L,if G then m1 else 0,if G then m2 else 0,0,false,0⟩:=⟨_,rfl⟩;rw[← hq] at z;have HQ:=hI hq;clear hq;have n:Hid (R={ q with cl:=if S then m3 else 0,all:=if S then !f3 else false,be:=if S && f3 then m4 else 0 }):=by
  show R=_
  rw[HR.out,HQ.out]
 have p:Hid (q.cl=0/\q.all=false/\q.be=0):=by rw[HQ.out];exact⟨rfl,rfl,rfl⟩
 clear HR HQ;go_upto_if 36 with fail;go_cut [] (fun wx=>Hid (PBx w wx w.heap.size M R))
 case first =>
  cases S with
  | false =>
   have e:R=q:=by
    rw[n.out];obtain⟨a,b,c,d,e,f⟩:=q;have h:=p.out;dsimp only at h;obtain⟨rfl,rfl,rfl⟩:=h
    rfl
   have X:Hid (PBx w wc w.heap.size M R):=by rw[e];exact z.out
   clear e z;go_wp2;go_meet;exact X.out
  | true =>
   go_wp2_with fail;refine(C4.out _).mono ?_;rintro e w4 ⟨rfl,g⟩;have j:Hid _:=z.out.below g;clear z g;go_wp2_with fail;refine(N2.out _ (Q.out.below j.out.bel)).mono ?_;rintro e w5 ⟨rfl,g⟩;have k:=hI (j.out.below g);clear j g;have D:=k.out.b;have x3:=za D 3 _ rfl;have x4:=za D 4 _ rfl;have g3:=zg D 3;have g4:=zg D 4;have l:Hid _:=(k.out.cl m3).all (!f3);clear D k;go_upto_if 49 with fail
   cases f3 with
   | false =>
    have e:R={ q with cl:=m3,all:=true }:=by
     rw[n.out];obtain⟨a,b,c,d,e,f⟩:=q;have h:=p.out;dsimp only at h;obtain⟨rfl,rfl,rfl⟩:=h
     rfl
    have Z:=hI e;clear e;go_wp2;go_meet;rw[Z.out];exact l.out
   | true =>
    have e:R={ q with cl:=m3,all:=false,be:=m4 }:=by
     rw[n.out]
     rfl
    have Z:=hI e;clear e;generalize World.setCell (World.setCell w5 ⟨M,3,none⟩ (int i64 m3)) ⟨M,4,none⟩ _=W6 at l ⊢;go_wp2_with fail;refine(N3.out _ (Q.out.below l.out.bel)).mono ?_;rintro e w7 ⟨rfl,g⟩;have C:Hid _:=l.out.below g;have b7:=C.out.b;have x5:=za b7 5 _ rfl;have g5:=zg b7 5;have V:Hid _:=C.out.be m4;clear b7 l g;go_wp2;go_meet;rw[Z.out];exact V.out
 case rest =>
 have Y:=hcut;clear hcut z n p;have r:=Y.out.b;have i:=Y.out.r;have p0:=za r 0 _ rfl;have r0:=za i 0 _ rfl;have q0:=zg i 0;have p1:=za r 1 _ rfl;have r1:=za i 1 _ rfl;have q1:=zg i 1;have p2:=za r 2 _ rfl;have r2:=za i 2 _ rfl;have q2:=zg i 2;have p3:=za r 3 _ rfl;have r3:=za i 3 _ rfl;have q3:=zg i 3;have p4:=za r 4 _ rfl;have r4:=za i 4 _ rfl;have q4:=zg i 4;have p5:=za r 5 _ rfl;have r5:=za i 5 _ rfl;have q5:=zg i 5;have rF:=box_6 i (int i64 R.pe) (int i64 R.len) (int i64 R.hei) (int i64 R.cl) (.bool R.all) (int i64 R.be);have HF:Hid _:=partyDone Y.out (int i64 R.pe) (int i64 R.len) (int i64 R.hei) (int i64 R.cl) (.bool R.all) (int i64 R.be);clear r i;go_wp2;obtain⟨z0,O,P,z3,z4,z5⟩:=ce6 rF;exact bodyPost_ret (v:=.agg #[int i64 R.pe,int i64 R.len,int i64 R.hei,int i64 R.cl,.bool R.all,int i64 R.be]) (by simp[results,Tryz.results56,go_sem,z0,O,P,z3,z4,z5]) rfl ⟨rfl,HF.out⟩
end
def zbr (s:ByteArray)(L:List Int):Prop:=L.length<=s.size+1/\((s=⟨#[45]⟩/\L=[])∨(s≠⟨#[45]⟩/\∃ l,Q2 44 s l/\L=l.map zI))
theorem ziA (s:ByteArray)(w:World)(hs:s.size<=1048576)(U:Ze w) :
  Calls Tryz.prog 54 #[.string s,.func (.func 55) #[] #[]] w fun e w'=>∃ v L,e=.returned v/\w'.ownsRow w.heap.size 3 1 v L.length (QK L)/\Hid (zbr s L)/\Below w.heap.size w w':=by
 have Z:=hI U;clear U;obtain⟨j0,ji,O,P,Q⟩:=info_parts Tryz.infoInt
 by_cases h45:s=⟨#[45]⟩
 ·have r:(s.toList == (⟨#[45]⟩:ByteArray).toList)=true:=Q4.2 h45
  have HR:Hid (zbr s []):=⟨by simp,.inl ⟨h45,rfl⟩⟩
  have F:s.toList=[45]:=by rw[h45];simp[ByteArray.toList_eq]
  clear h45;go_enter Tryz.func54,Tryz.ntmps54;go_wp2;go_ret;exact⟨_,[],rfl,World.ownsRow_nil _ _ _ _,HR,bZ⟩
 ·have r:(s.toList == [45])=false:=by
   rw[beq_eq_false_iff_ne];intro e;exact h45 (QU (by rw[e];simp[ByteArray.toList_eq]))
  have F:¬ s.toList=[45]:=by rwa [beq_eq_false_iff_ne] at r
  have D:=hI h45;clear h45;go_enter Tryz.func54,Tryz.ntmps54;go_wp2_with fail;refine(zaO s 44 _ (by decide) hs).mono ?_
  rintro e w2 ⟨v,l,rfl,J,K,H⟩;obtain⟨pa,R,rfl,a2,a3,a5⟩:=zt J;have d:=hI J;have q:=hI K.out;have a1:l.length<=1048577:=by have:=K.out.2;omega
  clear J K;go_wp2;go_loopw [5,7,13] (fun v _ i A=>∃ k:Nat,k<=l.length/\i=int i64 k/\Hid (A.ownsRow w.heap.size 3 1 v k (QK ((l.take k).map zI)))/\Hid (zcZ A w.heap.size (.slice pa l.length R) l)/\Below w.heap.size w A)
   (fun _ _ i _=>l.length - (intOf i).toNat)
  case atStart=>exact⟨0,Nat.zero_le _,rfl,World.ownsRow_nil _ _ _ _,d.out,H⟩
  case round =>
   clear d;obtain⟨k,hk,rfl,p,d,a⟩:=hrel
   by_cases hlt:k<l.length
   ·obtain⟨g,M,_,hg⟩:=qw d.out (by omega)
    subst M;have N:l[k]?=some (l[k]'hlt):=List.getElem?_eq_getElem hlt;have V:A.cell? ⟨g,k,none⟩=some (.string (l[k]'hlt)):=by rw[World.ownsRow.cellAt d.out k (by omega),List.getElem?_map,N];rfl
    have T:(l.take (k+1)).map zI=(l.take k).map zI++[zI (l[k]'hlt)]:=by rw[List.take_add_one,N,List.map_append];rfl
    have S:=hI T;have a0:((l.take k).map zI).length=k:=by rw[List.length_map,List.length_take];omega
    generalize l[k]'hlt=x at V S;obtain⟨va,vc,rfl,_⟩:=zt p.out;clear N T;go_wp2_with fail;refine(ZO x _ (Z.out.below a)).mono ?_;rintro e z ⟨rfl,c⟩;have b:Hid (World.ownsRow (z.alloc (.cells #[int i64 (zI x)] 3)) w.heap.size 3 1 (.slice va k vc) k (QK ((l.take k).map zI))):=zm (zr bZ _) (zm c p.out);have f:Hid (zcZ (z.alloc (.cells #[int i64 (zI x)] 3)) w.heap.size (.slice (some ⟨g,0,none⟩) l.length R) l):=zm (zr bZ _) (zm c d.out);have m:Below w.heap.size w (z.alloc (.cells #[int i64 (zI x)] 3)):=zr (zj a c) _;have o:=m.size;clear p d a c V;go_wp2_with (first|(at_builtin;refine zz _ (by rfl) (.tmp 17) (.tmp 21) 23 (by rfl) w.heap.size 3 j0 (int i64 0) 1 8 Tryz.underlying23 ji O P Q rfl (by decide) _ k (QK ((l.take k).map zI)) (by rfl) b.out (some ⟨z.heap.size,0,none⟩) 1 1 [int i64 (zI x)] (by rfl) (fun h=>by cases h) (by rfl) (fun ad h=>by cases h;exact World.news_of_block (heap_alloc_new z _)) (by intro u W;simp only[List.mem_cons,List.not_mem_nil,or_false] at W;subst W;rfl) (by unfold maxLen;omega) (by omega) o ?_;intro v9 X y n))
    have C:Hid (World.ownsRow X w.heap.size 3 1 v9 (k+1) (QK ((l.take (k+1)).map zI))):=by
     rw[S.out,zgH];exact y
    have E:Hid (zcZ X w.heap.size (.slice (some ⟨g,0,none⟩) l.length R) l):=(zO n).own f.out (fun g1 h1 F=>own_apart f.out b.out (by decide) g1 h1 F)
    have I:=m.grown n o (fun j hj=>(World.ownsRow.lt b.out j hj).1)
    clear b f m y n o;go_roundw
    case rel=>exact⟨k+1,by omega,by go_num,C.out,E.out,I⟩
    case measure=>simp[intOf];omega
   ·obtain rfl:k=l.length:=by omega
    have Y:Hid (zbr s (l.map zI)):=⟨by rw[List.length_map];exact q.out.2,.inr ⟨D.out,l,q.out.1,rfl⟩⟩
    have G:=p.out;rw[List.take_of_length_le (Nat.le_refl _)] at G;have t:(l.map zI).length=l.length:=by simp
    have B:Hid (A.ownsRow w.heap.size 3 1 u5 (l.map zI).length (QK (l.map zI))):=by rw[t];exact G
    clear p G t;go_wp2;go_ret;exact⟨_,_,rfl,B.out,Y,a⟩
end Go.Proofs.YtfallpinmhbemaaGreatDoor

/-
  OWN TEXT: SpecEi, KitBs, SpecEj, SpecEk, SpecEn.
-/
import Derived.Deep.DeepCutAuto
import Derived.Deep.RegionLawGrows
import Derived.Deep.RegionHeld3
import Derived.Deep.AppendLies
import Derived.Great.Walk
import Derived.Test.YtfallpinmhbemaaGreatDoorB24
import Derived.Test.YtfallpinmhbemaaGreatDoorB23
namespace Go.Proofs.YtfallpinmhbemaaGreatDoor
open Go.RowKit
open Go.Value (int)
open Go.IntKind (i64)
set_option maxHeartbeats 64000000
set_option maxRecDepth 100000
theorem l7End_9 (g base N R l i o j:Nat)(f d m t:Option Addr)(d0:Int)(y:OpD)(x:Off)(L C A B D E:Nat->Value)(w:World)(hq:w.heap[g]?=some (.cells #[.slice f N l,.slice d N i,.slice m R o] 66 (0,0)))(ho:zV w base (.slice f N l) (.slice d N i) (.slice m R o) N N R x L C A B D E)(b8:x.bkn=R)(a8:base<=w.heap.size)(J:y.kind=9)(d7:In y.pe 0 20)(f4:y.lgn<=3)(K:IntsAt w t y.lgn y.lg)(b7:SliceOk t y.lgn j)(b6:0<y.lgn->∀ a,t=some a->a.block<base)(k:Nat)(b5:0<y.lgn)(I:qo x.sa (y.lg 0) N=k)(b0:k<N)(hs:Off.Short x 1048576)(c4:x.san=N)(b9:x.ldn=N)(a0:x.bkn<=30) :
  Calls Tryz.prog 123 #[.pointer (some ⟨g,0,none⟩),int i64 d0,.agg #[int i64 y.kind,.string y.own,int i64 y.name,.slice t y.lgn j,int i64 y.pe,int i64 y.len,int i64 y.hei,int i64 y.cl,.bool y.all,int i64 y.be,int i64 y.unt,int i64 y.now]] w fun e w'=>zbf g base N l i f d (fun _=>False) x 0 0 0 (fun z v=>z.ownsRow w.heap.size 212 5 v (QJ (x.ld k) x.bk (y.lg 0) x.bkn).length (ZW (zii (QJ (x.ld k) x.bk (y.lg 0) x.bkn)) (QJ (x.ld k) x.bk (y.lg 0) x.bkn).length)) L C A B D w e w':=by
 have c8:Hid (qo x.sa (y.lg 0) N=k/\k<N/\Off.Short x 1048576/\x.san=N/\x.ldn=N/\x.bkn<=30/\0<y.lgn):=⟨I,b0,hs,c4,b9,a0,b5⟩;clear I b0 hs c4 b9 a0;rw[J];obtain⟨q,lo,rfl,a9⟩:=K 0 b5;have HO:=hI ho;have Y:=hI hq;have d9:=hI J;have s:=hI b8;have d8:=hI a8;have e4:=hI K;have e7:=hI b7;have e5:=hI b6;clear ho hq J b8 a8 K b7 b6;obtain⟨pr,M⟩:∃ pr,pr=Zg ⟨y.pe,y.len,y.hei,y.cl,y.all,y.be⟩ (y.lgn:Int):=⟨_,rfl⟩;have e6:=hI M;have b:Below w.heap.size w ((w.alloc (.cells #[int i64 9,.string y.own,int i64 y.name,.slice (some (⟨q,lo,none⟩:Addr)) y.lgn j,int i64 y.pe,int i64 y.len,int i64 y.hei,int i64 y.cl,.bool y.all,int i64 y.be,int i64 y.unt,int i64 y.now] 27)).alloc (.cells #[int i64 0,int i64 0,int i64 0,.slice none 0 0] 127)):=zr (zr bZ _) _;have bO:=ze (heap_alloc_new w (.cells #[int i64 9,.string y.own,int i64 y.name,.slice (some (⟨q,lo,none⟩:Addr)) y.lgn j,int i64 y.pe,int i64 y.len,int i64 y.hei,int i64 y.cl,.bool y.all,int i64 y.be,int i64 y.unt,int i64 y.now] 27)) (.cells #[int i64 0,int i64 0,int i64 0,.slice none 0 0] 127);have P:=zcC w (.cells #[int i64 9,.string y.own,int i64 y.name,.slice (some (⟨q,lo,none⟩:Addr)) y.lgn j,int i64 y.pe,int i64 y.len,int i64 y.hei,int i64 y.cl,.bool y.all,int i64 y.be,int i64 y.unt,int i64 y.now] 27) (.cells #[int i64 0,int i64 0,int i64 0,.slice none 0 0] 127);go_enter Tryz.func123,Tryz.ntmps123;go_wp2_with fail;generalize ((w.alloc (.cells #[int i64 9,.string y.own,int i64 y.name,.slice (some (⟨q,lo,none⟩:Addr)) y.lgn j,int i64 y.pe,int i64 y.len,int i64 y.hei,int i64 y.cl,.bool y.all,int i64 y.be,int i64 y.unt,int i64 y.now] 27)).alloc (.cells #[int i64 0,int i64 0,int i64 0,.slice none 0 0] 127))=W at b bO P ⊢;refine(qV y.pe y.len y.hei y.cl y.all y.be (y.lgn:Int) _ d7 (by unfold In;omega)).mono ?_
 rintro e V ⟨rfl,F⟩;rw[← M];clear M;replace b:=zj b F;replace bO:=zc bO F;replace P:=zc P F;clear F W;have o0:=za bO 0 _ rfl;have f2:g<w.heap.size:=zZ Y.out;have d6:q<w.heap.size:=World.block_lt_of_cell? w _ a9;have i5:(0:Int)<(y.lgn:Int):=by omega
 have KS:Hid (∀ z,Below V.heap.size V z->z.cell? ⟨g,0,none⟩=some (.slice f N l)/\z.cell? ⟨g,1,none⟩=some (.slice d N i)/\z.cell? ⟨g,2,none⟩=some (.slice m R o)/\z.cell? ⟨w.heap.size,3,none⟩=some (.slice (some ⟨q,lo,none⟩) y.lgn j)/\z.cell? ⟨q,lo,none⟩=some (int i64 (y.lg 0))):=fun z h=>⟨za (zc Y.out (zj b h)) 0 _ rfl,za (zc Y.out (zj b h)) 1 _ rfl,za (zc Y.out (zj b h)) 2 _ rfl,za (zc bO h) 3 _ rfl,((zj b h).cell (p:=⟨q,lo,none⟩) d6).trans a9⟩
 have KT:Hid (∀ z,Below V.heap.size V z->∀ c0 c1 c2 c3 O,O=(((z.setCell ⟨w.heap.size+1,0,none⟩ c0).setCell ⟨w.heap.size+1,1,none⟩ c1).setCell ⟨w.heap.size+1,2,none⟩ c2).setCell ⟨w.heap.size+1,3,none⟩ c3->O.cell? ⟨g,0,none⟩=some (.slice f N l)/\O.cell? ⟨g,1,none⟩=some (.slice d N i)/\O.cell? ⟨g,2,none⟩=some (.slice m R o)/\O.cell? ⟨w.heap.size,3,none⟩=some (.slice (some ⟨q,lo,none⟩) y.lgn j)/\O.cell? ⟨q,lo,none⟩=some (int i64 (y.lg 0))):=fun z h c0 c1 c2 c3 O e=>by
  subst e;obtain⟨a1,a2,a3,a4,a5⟩:=KS.out z h;have I:=QQ z (w.heap.size+1) c0 c1 c2 c3;exact⟨ZN I a1 (by show ¬ _=_;dsimp only;omega),ZN I a2 (by show ¬ _=_;dsimp only;omega),ZN I a3 (by show ¬ _=_;dsimp only;omega),ZN I a4 (by show ¬ _=_;dsimp only;omega),ZN I a5 (by show ¬ _=_;dsimp only;omega)⟩
 have c5:Hid (∀ Z,Below V.heap.size V Z->Calls Tryz.prog 144 #[.agg #[.slice f N l,.slice d N i,.slice m R o],int i64 (y.lg 0)] Z fun e w5=>(∃ G n H,e=.returned (.slice G n H)/\Hid (w5.ownsRow w.heap.size 212 5 (.slice G n H) (QJ (x.ld k) x.bk (y.lg 0) x.bkn).length (ZW (zii (QJ (x.ld k) x.bk (y.lg 0) x.bkn)) (QJ (x.ld k) x.bk (y.lg 0) x.bkn).length)))/\Below V.heap.size V w5):=fun Z hZ=>by
  have hh:=(HO.out.below (zj b hZ));obtain⟨q1,q2,q3,q4,q5,q6,_⟩:=c8.out;have e1:Calls Tryz.prog 144 #[.agg #[.slice f x.san l,.slice d x.ldn i,.slice m x.bkn o],int i64 (y.lg 0)] Z _:=zgi x f d m l i o k (y.lg 0) Z q3 (by rw[q4];exact hh.sa.at) (by rw[q5];exact hh.ld.at) (by rw[s.out];exact hh.bk.at) q6 (by rw[q4];exact q1) (by rw[q4];exact q2) (by rw[q4,q5])
  rw[q4,q5,s.out] at e1;refine e1.mono ?_;rintro e w5 ⟨⟨u,rfl,o1⟩,d5⟩;rw[s.out];obtain⟨G,H,rfl,_⟩:=zt o1;exact⟨⟨G,_,H,rfl,zE o1 (Nat.le_trans b.size hZ.size)⟩,zj hZ d5⟩
 obtain⟨v0,v1,v2,v3⟩:=ce4 P;obtain⟨e0,e1,e2,e3⟩:=fe4 P;go_upto_region 6 with fail;go_region_held3 (fun w'=>w'.cell? ⟨g,0,none⟩=some (.slice f N l)/\w'.cell? ⟨g,1,none⟩=some (.slice d N i)/\w'.cell? ⟨g,2,none⟩=some (.slice m R o)/\w'.cell? ⟨w.heap.size,3,none⟩=some (.slice (some ⟨q,lo,none⟩) y.lgn j)/\w'.cell? ⟨q,lo,none⟩=some (int i64 (y.lg 0)))
  (first|(with_reducible exact KT.out _ r.out _ _ _ _ _ rfl)|(refine KS.out _ ?_;repeat(first|exact r.out|exact bZ|refine Below.drew ?_|refine zr ?_ _)))
  (first
   | (go_simp;go_at_call 144;(with_reducible refine Calls.mono (c5.out _ ?_) ?_);(focus(repeat(first | exact bZ | refine Below.drew ?_ | refine zr ?_ _)));rintro e u2 ⟨⟨G,n,H,rfl,X⟩,a7⟩;have r:=hI a7;have c:=zc P a7;have f5:=za c 0 _ rfl;have e8:=zg c 0;have f6:=za c 1 _ rfl;have e9:=zg c 1;have f7:=za c 2 _ rfl;have f0:=zg c 2;have f8:=za c 3 _ rfl;have f1:=zg c 3;dsimp only))
 obtain⟨U,a6,S,bF⟩:=Q0 (T:=(fun _=>False)) (zA.of_below (zj b r.out)) (HO.out.below (zj b r.out)) (zc Y.out (zj b r.out)) c (by omega) (int i64 0) (int i64 0) (int i64 0) (.slice G n H) rfl
 have c9:Hid _:=(QQ u2 (w.heap.size+1) (int i64 0) (int i64 0) (int i64 0) (.slice G n H)).own X.out (qR X.out c (by decide))
 have Q:Hid _:=U;have c7:Hid _:=a6;have c6:Hid _:=S;clear U a6 S;go_wp2;obtain⟨x0,x1,x2,x3⟩:=ce4 bF;refine bodyPost_ret (v:=.agg #[int i64 0,int i64 0,int i64 0,.slice G n H]) (by simp[results,Tryz.results123,go_sem,x0,x1,x2,x3]) rfl ?_
 have hR:=s.out;subst hR;exact⟨_,_,_,_,rfl,c9.out,Q.out,c7.out,c6.out⟩
theorem Q1 {P:Program}{d:Array Oper}{o:Oper}{a:Act}{w:World}{K:Act->World->Prop}{Q:Exit->Act->World->Prop}{E:Prop}(h:o.guard=none)(t e:TypeId)(len:Nat)(b:Array (Nat × Operand))(j:o.op=.buildSlice t len b)(k:P.underlying t=some (.slice e))(cells:Array Value)
  (c:P.builtSlice e len (b.map fun (i,x)=>(i,a.eval x)).toList=some cells) (g:K (a.put o.dst (.slice (some ⟨w.heap.size,0,none⟩) len len)) (w.alloc (.cells cells e))) :
  if Region.wanted o (yielded d a.tmps)=true then Oper.wp P o a w K Q else E:=by
 have l:Region.wanted o (yielded d a.tmps)=true:=by simp[Region.wanted,h]
 rw[if_pos l];unfold Program.builtSlice at c
 cases hie:P.info? e with
 | none=>simp[hie] at c
 | some ie =>
  simp only[hie] at c
  cases hz:ie.zero with
  | none=>simp[hz] at c
  | some z =>
   simp only[hz] at c
   by_cases hc:len*ie.size > 2 ^ 24∨len*ie.size=0
   ·simp[hc] at c
   ·rw[if_neg hc] at c
    exact wp_buildSlice t e len b j cells ie z k hie hz (fun f=>hc (Or.inl f)) (fun f=>hc (Or.inr f)) c g
theorem zcV {w:World}{g t:Nat}{u0 u1 u2 u3 u4 u5 u6 u7 u8 u9 u10 u11 u12:Value}(h:w.heap[g]?=some (.cells #[u0,u1,u2,u3,u4,u5,u6,u7,u8,u9,u10,u11,u12] t (0,0)))(d e f i j k l m n o a b c:Value) :
  (((((((((((((w.setCell ⟨g,0,none⟩ d).setCell ⟨g,1,none⟩ e).setCell ⟨g,2,none⟩ f).setCell ⟨g,3,none⟩ i).setCell ⟨g,4,none⟩ j).setCell ⟨g,5,none⟩ k).setCell ⟨g,6,none⟩ l).setCell ⟨g,7,none⟩ m).setCell ⟨g,8,none⟩ n).setCell ⟨g,9,none⟩ o).setCell ⟨g,10,none⟩ a).setCell ⟨g,11,none⟩ b).setCell ⟨g,12,none⟩ c).heap[g]?=some (.cells #[d,e,f,i,j,k,l,m,n,o,a,b,c] t (0,0)):=by
 simpa using zy (zy (zy (zy (zy (zy (zy (zy (zy (zy (zy (zy (zy h 0 d) 1 e) 2 f) 3 i) 4 j) 5 k) 6 l) 7 m) 8 n) 9 o) 10 a) 11 b) 12 c
theorem zcW {W w:World}{b:Nat}(h:Below W.heap.size W w)(a:W.heap.size<=b)(f g i j k l m n o q c d e:Value) :
  Below W.heap.size W (((((((((((((w.setCell ⟨b,0,none⟩ f).setCell ⟨b,1,none⟩ g).setCell ⟨b,2,none⟩ i).setCell ⟨b,3,none⟩ j).setCell ⟨b,4,none⟩ k).setCell ⟨b,5,none⟩ l).setCell ⟨b,6,none⟩ m).setCell ⟨b,7,none⟩ n).setCell ⟨b,8,none⟩ o).setCell ⟨b,9,none⟩ q).setCell ⟨b,10,none⟩ c).setCell ⟨b,11,none⟩ d).setCell ⟨b,12,none⟩ e):=by
 exact(Below.setCell (p:=⟨b,12,none⟩) (Below.setCell (p:=⟨b,11,none⟩) (Below.setCell (p:=⟨b,10,none⟩) (Below.setCell (p:=⟨b,9,none⟩) (Below.setCell (p:=⟨b,8,none⟩) (Below.setCell (p:=⟨b,7,none⟩) (Below.setCell (p:=⟨b,6,none⟩) (Below.setCell (p:=⟨b,5,none⟩) (Below.setCell (p:=⟨b,4,none⟩) (Below.setCell (p:=⟨b,3,none⟩) (Below.setCell (p:=⟨b,2,none⟩) (Below.setCell (p:=⟨b,1,none⟩) (Below.setCell (p:=⟨b,0,none⟩) h a f) a g) a i) a j) a k) a l) a m) a n) a o) a q) a c) a d) a e)
theorem zbS (w:World)(b:Nat)(f g h i j k l m n o c d e:Value) :
  zA w (((((((((((((w.setCell ⟨b,0,none⟩ f).setCell ⟨b,1,none⟩ g).setCell ⟨b,2,none⟩ h).setCell ⟨b,3,none⟩ i).setCell ⟨b,4,none⟩ j).setCell ⟨b,5,none⟩ k).setCell ⟨b,6,none⟩ l).setCell ⟨b,7,none⟩ m).setCell ⟨b,8,none⟩ n).setCell ⟨b,9,none⟩ o).setCell ⟨b,10,none⟩ c).setCell ⟨b,11,none⟩ d).setCell ⟨b,12,none⟩ e) (fun x=>x=b):=by
 exact((((((((((((((zA.refl w (fun x=>x=b)).set (a:=⟨b,0,none⟩) rfl f).set (a:=⟨b,1,none⟩) rfl g).set (a:=⟨b,2,none⟩) rfl h).set (a:=⟨b,3,none⟩) rfl i).set (a:=⟨b,4,none⟩) rfl j).set (a:=⟨b,5,none⟩) rfl k).set (a:=⟨b,6,none⟩) rfl l).set (a:=⟨b,7,none⟩) rfl m).set (a:=⟨b,8,none⟩) rfl n).set (a:=⟨b,9,none⟩) rfl o).set (a:=⟨b,10,none⟩) rfl c).set (a:=⟨b,11,none⟩) rfl d).set (a:=⟨b,12,none⟩) rfl e)
theorem l7End_2 (g base N R a0 Z G H:Nat)(Y X r q:Option Addr)(c:Int)(y:OpD)(x:Off)(L C A B D E:Nat->Value)(w:World)(hq:w.heap[g]?=some (.cells #[.slice Y N a0,.slice X N Z,.slice r R G] 66 (0,0)))(ho:zV w base (.slice Y N a0) (.slice X N Z) (.slice r R G) N N R x L C A B D E)(i0:x.bkn=R)(P:base<=w.heap.size)(f4:y.kind=2)(i9:In y.pe 0 20)(k8:y.lgn<=3)(h4:IntsAt w q y.lgn y.lg)(h9:SliceOk q y.lgn H)(h5:0<y.lgn->∀ a,q=some a->a.block<base)(hR:R<30) :
  Calls Tryz.prog 123 #[.pointer (some ⟨g,0,none⟩),int i64 c,.agg #[int i64 y.kind,.string y.own,int i64 y.name,.slice q y.lgn H,int i64 y.pe,int i64 y.len,int i64 y.hei,int i64 y.cl,.bool y.all,int i64 y.be,int i64 y.unt,int i64 y.now]] w fun e w'=>zbf g base N a0 Z Y X (fun b=>b=g∨(Value.slice r R G).ownBlock=some b) { x with bkn:=R+1,bk:=QC x.bk R (Qa R c y) } 0 ((R:Int)+1) (Zg ⟨y.pe,y.len,y.hei,y.cl,y.all,y.be⟩ (y.lgn:Int)) (fun _ v=>v=.slice none 0 0) L C A B D w e w':=by
 obtain⟨n0,ni,f6,f7,f8⟩:=info_parts Tryz.infoInt;obtain⟨r0,ri,j2,j3,j4⟩:=info_parts Tryz.infoBookingO;rw[f4];have HO:=hI ho;have HQ:=hI hq;have i1:=hI f4;have j9:=hI i0;have f9:=hI P;have i2:=hI h4;have c2:=hI h9;have j8:=hI h5;clear ho hq f4 i0 P h4 h9 h5;obtain⟨k,f5⟩:∃ k,k=Zg ⟨y.pe,y.len,y.hei,y.cl,y.all,y.be⟩ (y.lgn:Int):=⟨_,rfl⟩;have g8:=hI f5;have I:Below w.heap.size w ((w.alloc (.cells #[int i64 2,.string y.own,int i64 y.name,.slice q y.lgn H,int i64 y.pe,int i64 y.len,int i64 y.hei,int i64 y.cl,.bool y.all,int i64 y.be,int i64 y.unt,int i64 y.now] 27)).alloc (.cells #[int i64 0,int i64 0,int i64 0,.slice none 0 0] 127)):=zr (zr bZ _) _;have bO:=ze (heap_alloc_new w (.cells #[int i64 2,.string y.own,int i64 y.name,.slice q y.lgn H,int i64 y.pe,int i64 y.len,int i64 y.hei,int i64 y.cl,.bool y.all,int i64 y.be,int i64 y.unt,int i64 y.now] 27)) (.cells #[int i64 0,int i64 0,int i64 0,.slice none 0 0] 127);have bA:=zcC w (.cells #[int i64 2,.string y.own,int i64 y.name,.slice q y.lgn H,int i64 y.pe,int i64 y.len,int i64 y.hei,int i64 y.cl,.bool y.all,int i64 y.be,int i64 y.unt,int i64 y.now] 27) (.cells #[int i64 0,int i64 0,int i64 0,.slice none 0 0] 127);go_enter Tryz.func123,Tryz.ntmps123;go_wp2_with fail;generalize ((w.alloc (.cells #[int i64 2,.string y.own,int i64 y.name,.slice q y.lgn H,int i64 y.pe,int i64 y.len,int i64 y.hei,int i64 y.cl,.bool y.all,int i64 y.be,int i64 y.unt,int i64 y.now] 27)).alloc (.cells #[int i64 0,int i64 0,int i64 0,.slice none 0 0] 127))=W at I bO bA ⊢;refine(qV y.pe y.len y.hei y.cl y.all y.be (y.lgn:Int) _ i9 (by unfold In;omega)).mono ?_
 rintro e V ⟨rfl,b7⟩;rw[← f5];clear f5;replace I:=zj I b7;replace bO:=zc bO b7;replace bA:=zc bA b7;clear b7 W;have o0:=za bO 0 _ rfl;have k0:((R:Int) == 30)=false:=by simp;omega
 have k4:(R == 30)=false:=by simp;omega
 have k9:IntKind.i64.wrap ((R:Int)+1)=(R:Int)+1:=by rw[IntKind.wrap_i64];omega
 have zq:=za (zc HQ.out I) 2 _ rfl;have c1:Hid (∀ z,Below V.heap.size V z->IntsAt z q y.lgn y.lg):=fun z h=>i2.out.below (zj I h)
 have KS:Hid (∀ z,Below V.heap.size V z->z.cell? ⟨g,2,none⟩=some (.slice r R G)/\z.cell? ⟨w.heap.size,1,none⟩=some (.string y.own)/\z.cell? ⟨w.heap.size,3,none⟩=some (.slice q y.lgn H)/\z.cell? ⟨w.heap.size,4,none⟩=some (int i64 y.pe)/\z.cell? ⟨w.heap.size,5,none⟩=some (int i64 y.len)/\z.cell? ⟨w.heap.size,6,none⟩=some (int i64 y.hei)/\z.cell? ⟨w.heap.size,7,none⟩=some (int i64 y.cl)/\z.cell? ⟨w.heap.size,8,none⟩=some (.bool y.all)/\z.cell? ⟨w.heap.size,9,none⟩=some (int i64 y.be)):=fun z h=>⟨za (zc HQ.out (zj I h)) 2 _ rfl,za (zc bO h) 1 _ rfl,za (zc bO h) 3 _ rfl,za (zc bO h) 4 _ rfl,za (zc bO h) 5 _ rfl,za (zc bO h) 6 _ rfl,za (zc bO h) 7 _ rfl,za (zc bO h) 8 _ rfl,za (zc bO h) 9 _ rfl⟩
 go_upto_region 11 with fail;refine qy 18 19 (fun w'=>w'.cell? ⟨g,2,none⟩=some (.slice r R G)/\w'.cell? ⟨w.heap.size,1,none⟩=some (.string y.own)/\w'.cell? ⟨w.heap.size,3,none⟩=some (.slice q y.lgn H)/\w'.cell? ⟨w.heap.size,4,none⟩=some (int i64 y.pe)/\w'.cell? ⟨w.heap.size,5,none⟩=some (int i64 y.len)/\w'.cell? ⟨w.heap.size,6,none⟩=some (int i64 y.hei)/\w'.cell? ⟨w.heap.size,7,none⟩=some (int i64 y.cl)/\w'.cell? ⟨w.heap.size,8,none⟩=some (.bool y.all)/\w'.cell? ⟨w.heap.size,9,none⟩=some (int i64 y.be)) rfl (by kernel_rfl) (KS.out _ (Below.drew bZ)) (fun hS=>?_)
 simp only[List.replicate_succ,List.replicate_zero]
 (refine tkL 0 (v:=?_) rfl (by kernel_rfl) (fun _ _ _ h=>h) rfl (by assumption) ?_ ?_;rotate_left;focus(intro w' h;(try dsimp only at h);go_simp;try with_reducible rfl);simp only[Act.put,sB,sZ,sS])
 (refine tkL 1 (v:=?_) rfl (by kernel_rfl) (fun _ _ _ h=>h) rfl (by assumption) ?_ ?_;rotate_left;focus(intro w' h;(try dsimp only at h);go_simp;try with_reducible rfl);simp only[Act.put,sB,sZ,sS])
 (refine tkL 2 (v:=?_) rfl (by kernel_rfl) (fun _ _ _ h=>h) rfl (by assumption) ?_ ?_;rotate_left;focus(intro w' h;(try dsimp only at h);go_simp;try with_reducible rfl);simp only[Act.put,sB,sZ,sS])
 (refine tkL 3 (v:=?_) rfl (by kernel_rfl) (fun _ _ _ h=>h) rfl (by assumption) ?_ ?_;rotate_left;focus(intro w' h;(try dsimp only at h);go_simp;try with_reducible rfl);simp only[Act.put,sB,sZ,sS])
 (refine tkL 4 (v:=?_) rfl (by kernel_rfl) (fun _ _ _ h=>h) rfl (by assumption) ?_ ?_;rotate_left;focus(intro w' h;(try dsimp only at h);go_simp;try with_reducible rfl);simp only[Act.put,sB,sZ,sS])
 (refine tkL 5 (v:=?_) rfl (by kernel_rfl) (fun _ _ _ h=>h) rfl (by assumption) ?_ ?_;rotate_left;focus(intro w' h;(try dsimp only at h);go_simp;try with_reducible rfl);simp only[Act.put,sB,sZ,sS])
 (refine tkL 6 (v:=?_) rfl (by kernel_rfl) (fun _ _ _ h=>h) rfl (by assumption) ?_ ?_;rotate_left;focus(intro w' h;(try dsimp only at h);go_simp;try with_reducible rfl);simp only[Act.put,sB,sZ,sS])
 (refine tkL 7 (v:=?_) rfl (by kernel_rfl) (fun _ _ _ h=>h) rfl (by assumption) ?_ ?_;rotate_left;focus(intro w' h;(try dsimp only at h);go_simp;try with_reducible rfl);simp only[Act.put,sB,sZ,sS])
 (refine tkL 8 (v:=?_) rfl (by kernel_rfl) (fun _ _ _ h=>h) rfl (by assumption) ?_ ?_;rotate_left;focus(intro w' h;(try dsimp only at h);go_simp;try with_reducible rfl);simp only[Act.put,sB,sZ,sS])
 (refine tkL 10 (v:=?_) rfl (by kernel_rfl) (fun _ _ _ h=>h) rfl (by assumption) ?_ ?_;rotate_left;focus(intro w' h;(try dsimp only at h);go_simp;try with_reducible rfl);simp only[Act.put,sB,sZ,sS])
 (refine tkL 11 (v:=?_) rfl (by kernel_rfl) (fun _ _ _ h=>h) rfl (by assumption) ?_ ?_;rotate_left;focus(intro w' h;(try dsimp only at h);go_simp;try with_reducible rfl);simp only[Act.put,sB,sZ,sS])
 (refine tkL 13 (v:=?_) rfl (by kernel_rfl) (fun _ _ _ h=>h) rfl (by assumption) ?_ ?_;rotate_left;focus(intro w' h;(try dsimp only at h);go_simp;try with_reducible rfl);simp only[Act.put,sB,sZ,sS])
 (refine tkL 14 (v:=?_) rfl (by kernel_rfl) (fun _ _ _ h=>h) rfl (by assumption) ?_ ?_;rotate_left;focus(intro w' h;(try dsimp only at h);go_simp;try with_reducible rfl);simp only[Act.put,sB,sZ,sS])
 (refine tkL 15 (v:=?_) rfl (by kernel_rfl) (fun _ _ _ h=>h) rfl (by assumption) ?_ ?_;rotate_left;focus(intro w' h;(try dsimp only at h);go_simp;try with_reducible rfl);simp only[Act.put,sB,sZ,sS])
 refine zh (rs:=[9,17]) (by kernel_rfl) (by simp) ?_
 refine zd.consL rfl (fun K f=>?_) (zd.consL rfl (fun K f=>?_) zd.nil)
 focus
  go_simp;refine f.out _ _ (KS.out _ (by repeat(first|with_reducible exact l.out|with_reducible exact bZ|with_reducible refine Below.drew ?_|with_reducible refine zr ?_ _))) (fun hS=>?_)
  clear f K;simp only[sZ,sS];refine zh (rs:=[12,17]) (by kernel_rfl) (by simp) ?_
  refine zd.consL rfl (fun K f=>?_) (zd.consL rfl (fun K f=>?_) zd.nil)
  focus
   refine zN (by rfl) (.tmp 53) (.tmp 55) 23 (by rfl) 3 n0 (int i64 0) 1 8 Tryz.underlying23 ni f6 f7 f8 rfl (by decide) V.heap.size _ (by rfl) (by first|exact Nat.le_refl _|omega|(simp;done)|(simp;omega)) (by repeat(first|((with_reducible refine qY _ _ _ ?_);(first|with_reducible rfl|(simp;done)))|with_reducible refine zF ?_|with_reducible refine ze ?_ _)) q y.lgn H (zJ y.lg y.lgn) (by rfl) c2.out.2.2 (by rw[intList_length,Nat.mul_one]) (qX (c1.out _ (by repeat(first|exact bZ|refine Below.drew ?_|refine zr ?_ _)))) (intList_one _ _) (by unfold maxLen;omega) (by omega) ?_;intro n o u1 T U S;clear S;have l:Hid (Below V.heap.size V u1):=(by show Below _ _ _;refine zj ?_ (zl T);exact(by repeat(first|exact bZ|refine Below.drew ?_|refine zr ?_ _)));refine f.out _ _ (KS.out _ l.out) (fun hS=>?_)
   clear f K;simp only[Act.put,sB,sZ,sS]
   (refine tkL 16 (v:=?_) rfl (by kernel_rfl) (fun _ _ _ h=>h) rfl (by assumption) ?_ ?_;rotate_left;focus(intro w' h;(try dsimp only at h);go_simp;try with_reducible rfl);simp only[Act.put,sB,sZ,sS])
   refine zh (rs:=[17]) (by kernel_rfl) (by simp) ?_
   refine zd.consL rfl (fun K f=>?_) zd.nil
   focus
    go_simp;refine f.out _ _ (KS.out _ (by repeat(first|with_reducible exact l.out|with_reducible exact bZ|with_reducible refine Below.drew ?_|with_reducible refine zr ?_ _))) (fun hS=>?_)
    clear f K;simp only[sZ,sS];refine zh (rs:=[18]) (by kernel_rfl) (by simp) ?_
    refine zd.lastL rfl (fun K f=>?_)
    go_simp;refine f.out _ _ ?_;clear f K;refine zH (by kernel_rfl) ?_ _
    have m:=heap_alloc_new u1 (.cells #[int i64 ((R:Int)+1),int i64 c,.string y.own,.slice n y.lgn o,int i64 y.pe,int i64 y.len,int i64 y.hei,int i64 y.cl,.bool y.all,int i64 y.be,int i64 2,int i64 0,int i64 k] 131);have M:=zr l.out (.cells #[int i64 ((R:Int)+1),int i64 c,.string y.own,.slice n y.lgn o,int i64 y.pe,int i64 y.len,int i64 y.hei,int i64 y.cl,.bool y.all,int i64 y.be,int i64 2,int i64 0,int i64 k] 131);have Q:Hid _:=zm (zr bZ (.cells #[int i64 ((R:Int)+1),int i64 c,.string y.own,.slice n y.lgn o,int i64 y.pe,int i64 y.len,int i64 y.hei,int i64 y.cl,.bool y.all,int i64 y.be,int i64 2,int i64 0,int i64 k] 131)) U;generalize u1.alloc (.cells #[int i64 ((R:Int)+1),int i64 c,.string y.own,.slice n y.lgn o,int i64 y.pe,int i64 y.len,int i64 y.hei,int i64 y.cl,.bool y.all,int i64 y.be,int i64 2,int i64 0,int i64 k] 131)=F at m M Q ⊢;have O:V.heap.size<=u1.heap.size:=l.out.size;generalize u1.heap.size=d at m O ⊢
  rotate_left 1
  focus
   go_simp;refine f.out _ _ (KS.out _ (by repeat(first|with_reducible exact l.out|with_reducible exact bZ|with_reducible refine Below.drew ?_|with_reducible refine zr ?_ _))) (fun hS=>?_)
   clear f K;simp only[sZ,sS];refine zh (rs:=[12]) (by kernel_rfl) (by simp) ?_
   refine zd.consL rfl (fun K f=>?_) zd.nil
   focus
    refine zN (by rfl) (.tmp 53) (.tmp 55) 23 (by rfl) 3 n0 (int i64 0) 1 8 Tryz.underlying23 ni f6 f7 f8 rfl (by decide) V.heap.size _ (by rfl) (by first|exact Nat.le_refl _|omega|(simp;done)|(simp;omega)) (by repeat(first|((with_reducible refine qY _ _ _ ?_);(first|with_reducible rfl|(simp;done)))|with_reducible refine zF ?_|with_reducible refine ze ?_ _)) q y.lgn H (zJ y.lg y.lgn) (by rfl) c2.out.2.2 (by rw[intList_length,Nat.mul_one]) (qX (c1.out _ (by repeat(first|exact bZ|refine Below.drew ?_|refine zr ?_ _)))) (intList_one _ _) (by unfold maxLen;omega) (by omega) ?_;intro n o u1 T U S;clear S;have l:Hid (Below V.heap.size V u1):=(by show Below _ _ _;refine zj ?_ (zl T);exact(by repeat(first|exact bZ|refine Below.drew ?_|refine zr ?_ _)));refine f.out _ _ (KS.out _ l.out) (fun hS=>?_)
    clear f K;simp only[Act.put,sB,sZ,sS]
    (refine tkL 16 (v:=?_) rfl (by kernel_rfl) (fun _ _ _ h=>h) rfl (by assumption) ?_ ?_;rotate_left;focus(intro w' h;(try dsimp only at h);go_simp;try with_reducible rfl);simp only[Act.put,sB,sZ,sS])
    have J:u1.heap[V.heap.size+1]?=some (.cells #[int i64 0,int i64 0,.string ⟨#[]⟩,.slice none 0 0,int i64 0,int i64 0,int i64 0,int i64 0,.bool false,int i64 0,int i64 0,int i64 0,int i64 0] 131 (0,0)):=zc (by repeat(first|((with_reducible refine qY _ _ _ ?_);(first|with_reducible rfl|(simp;done)))|with_reducible refine zF ?_|with_reducible refine ze ?_ _)) (zl T)
    obtain⟨d9,e4,e5,e6,e7,e8,e9,f0,f1,f2,a6,a7,a8⟩:=ce13 J;obtain⟨c5,c6,c7,c8,c9,d0,d5,d6,d7,d8,a2,a3,a5⟩:=fe13 J;refine zh (rs:=[18]) (by kernel_rfl) (by simp) ?_
    refine zd.lastL rfl (fun K f=>?_)
    go_simp;refine f.out _ _ ?_;clear f K;refine zH (by kernel_rfl) ?_ _
    have m:=zcV J (int i64 ((R:Int)+1)) (int i64 c) (.string y.own) (.slice n y.lgn o) (int i64 y.pe) (int i64 y.len) (int i64 y.hei) (int i64 y.cl) (.bool y.all) (int i64 y.be) (int i64 2) (int i64 0) (int i64 k);have M:=zcW l.out (b:=V.heap.size+1) (by omega) (int i64 ((R:Int)+1)) (int i64 c) (.string y.own) (.slice n y.lgn o) (int i64 y.pe) (int i64 y.len) (int i64 y.hei) (int i64 y.cl) (.bool y.all) (int i64 y.be) (int i64 2) (int i64 0) (int i64 k)
    have Q:Hid _:=(zbS u1 (V.heap.size+1) (int i64 ((R:Int)+1)) (int i64 c) (.string y.own) (.slice n y.lgn o) (int i64 y.pe) (int i64 y.len) (int i64 y.hei) (int i64 y.cl) (.bool y.all) (int i64 y.be) (int i64 2) (int i64 0) (int i64 k)).own U (qR U J (by decide))
    clear J d9 c5 e4 c6 e5 c7 e6 c8 e7 c9 e8 d0 e9 d5 f0 d6 f1 d7 f2 d8 a6 a2 a7 a3 a8 a5;generalize (((((((((((((u1.setCell ⟨V.heap.size+1,0,none⟩ (int i64 ((R:Int)+1))).setCell ⟨V.heap.size+1,1,none⟩ (int i64 c)).setCell ⟨V.heap.size+1,2,none⟩ (.string y.own)).setCell ⟨V.heap.size+1,3,none⟩ (.slice n y.lgn o)).setCell ⟨V.heap.size+1,4,none⟩ (int i64 y.pe)).setCell ⟨V.heap.size+1,5,none⟩ (int i64 y.len)).setCell ⟨V.heap.size+1,6,none⟩ (int i64 y.hei)).setCell ⟨V.heap.size+1,7,none⟩ (int i64 y.cl)).setCell ⟨V.heap.size+1,8,none⟩ (.bool y.all)).setCell ⟨V.heap.size+1,9,none⟩ (int i64 y.be)).setCell ⟨V.heap.size+1,10,none⟩ (int i64 2)).setCell ⟨V.heap.size+1,11,none⟩ (int i64 0)).setCell ⟨V.heap.size+1,12,none⟩ (int i64 k))=F at m M Q ⊢;have O:V.heap.size<=V.heap.size+1:=(by omega)
    generalize V.heap.size+1=d at m O ⊢
 rotate_left 2
 focus
  go_simp;refine f.out _ _ (KS.out _ (by repeat(first|with_reducible exact l.out|with_reducible exact bZ|with_reducible refine Below.drew ?_|with_reducible refine zr ?_ _))) (fun hS=>?_)
  clear f K;simp only[sZ,sS];refine zh (rs:=[9]) (by kernel_rfl) (by simp) ?_
  refine zd.consL rfl (fun K f=>?_) zd.nil
  focus
   go_simp;refine f.out _ _ (KS.out _ (by repeat(first|with_reducible exact l.out|with_reducible exact bZ|with_reducible refine Below.drew ?_|with_reducible refine zr ?_ _))) (fun hS=>?_)
   clear f K;simp only[sZ,sS];refine zh (rs:=[12]) (by kernel_rfl) (by simp) ?_
   refine zd.consL rfl (fun K f=>?_) zd.nil
   focus
    refine zN (by rfl) (.tmp 53) (.tmp 55) 23 (by rfl) 3 n0 (int i64 0) 1 8 Tryz.underlying23 ni f6 f7 f8 rfl (by decide) V.heap.size _ (by rfl) (by first|exact Nat.le_refl _|omega|(simp;done)|(simp;omega)) (by repeat(first|((with_reducible refine qY _ _ _ ?_);(first|with_reducible rfl|(simp;done)))|with_reducible refine zF ?_|with_reducible refine ze ?_ _)) q y.lgn H (zJ y.lg y.lgn) (by rfl) c2.out.2.2 (by rw[intList_length,Nat.mul_one]) (qX (c1.out _ (by repeat(first|exact bZ|refine Below.drew ?_|refine zr ?_ _)))) (intList_one _ _) (by unfold maxLen;omega) (by omega) ?_;intro n o u1 T U S;clear S;have l:Hid (Below V.heap.size V u1):=(by show Below _ _ _;refine zj ?_ (zl T);exact(by repeat(first|exact bZ|refine Below.drew ?_|refine zr ?_ _)));refine f.out _ _ (KS.out _ l.out) (fun hS=>?_)
    clear f K;simp only[Act.put,sB,sZ,sS]
    (refine tkL 16 (v:=?_) rfl (by kernel_rfl) (fun _ _ _ h=>h) rfl (by assumption) ?_ ?_;rotate_left;focus(intro w' h;(try dsimp only at h);go_simp;try with_reducible rfl);simp only[Act.put,sB,sZ,sS])
    have J:u1.heap[V.heap.size]?=some (.cells #[int i64 0,int i64 0,.string ⟨#[]⟩,.slice none 0 0,int i64 0,int i64 0,int i64 0,int i64 0,.bool false,int i64 0,int i64 0,int i64 0,int i64 0] 131 (0,0)):=zc (by repeat(first|((with_reducible refine qY _ _ _ ?_);(first|with_reducible rfl|(simp;done)))|with_reducible refine zF ?_|with_reducible refine ze ?_ _)) (zl T)
    obtain⟨d9,e4,e5,e6,e7,e8,e9,f0,f1,f2,a6,a7,a8⟩:=ce13 J;obtain⟨c5,c6,c7,c8,c9,d0,d5,d6,d7,d8,a2,a3,a5⟩:=fe13 J;refine zh (rs:=[18]) (by kernel_rfl) (by simp) ?_
    refine zd.lastL rfl (fun K f=>?_)
    go_simp;refine f.out _ _ ?_;clear f K;refine zH (by kernel_rfl) ?_ _
    have m:=zcV J (int i64 ((R:Int)+1)) (int i64 c) (.string y.own) (.slice n y.lgn o) (int i64 y.pe) (int i64 y.len) (int i64 y.hei) (int i64 y.cl) (.bool y.all) (int i64 y.be) (int i64 2) (int i64 0) (int i64 k);have M:=zcW l.out (b:=V.heap.size) (by omega) (int i64 ((R:Int)+1)) (int i64 c) (.string y.own) (.slice n y.lgn o) (int i64 y.pe) (int i64 y.len) (int i64 y.hei) (int i64 y.cl) (.bool y.all) (int i64 y.be) (int i64 2) (int i64 0) (int i64 k)
    have Q:Hid _:=(zbS u1 (V.heap.size) (int i64 ((R:Int)+1)) (int i64 c) (.string y.own) (.slice n y.lgn o) (int i64 y.pe) (int i64 y.len) (int i64 y.hei) (int i64 y.cl) (.bool y.all) (int i64 y.be) (int i64 2) (int i64 0) (int i64 k)).own U (qR U J (by decide))
    clear J d9 c5 e4 c6 e5 c7 e6 c8 e7 c9 e8 d0 e9 d5 f0 d6 f1 d7 f2 d8 a6 a2 a7 a3 a8 a5;generalize (((((((((((((u1.setCell ⟨V.heap.size,0,none⟩ (int i64 ((R:Int)+1))).setCell ⟨V.heap.size,1,none⟩ (int i64 c)).setCell ⟨V.heap.size,2,none⟩ (.string y.own)).setCell ⟨V.heap.size,3,none⟩ (.slice n y.lgn o)).setCell ⟨V.heap.size,4,none⟩ (int i64 y.pe)).setCell ⟨V.heap.size,5,none⟩ (int i64 y.len)).setCell ⟨V.heap.size,6,none⟩ (int i64 y.hei)).setCell ⟨V.heap.size,7,none⟩ (int i64 y.cl)).setCell ⟨V.heap.size,8,none⟩ (.bool y.all)).setCell ⟨V.heap.size,9,none⟩ (int i64 y.be)).setCell ⟨V.heap.size,10,none⟩ (int i64 2)).setCell ⟨V.heap.size,11,none⟩ (int i64 0)).setCell ⟨V.heap.size,12,none⟩ (int i64 k))=F at m M Q ⊢;obtain⟨d,h3⟩:∃ d,d=V.heap.size:=⟨_,rfl⟩;rw[← h3] at m ⊢;have O:V.heap.size<=d:=by omega
    clear h3
 all_goals
  clear hS T U l;have P:=zj I M;have b5:=zc bO M;have c4:=zc bA M;have o0:=za b5 0 _ rfl;have k5:w.heap.size+1<V.heap.size:=zZ bA;have i5:=za m 10 _ rfl;have i6:=za m 11 _ rfl;have i7:=zg m 10;have i8:=zg m 11;have j0:∀ v,(F.setCell ⟨d,10,none⟩ v).cell? ⟨w.heap.size,10,none⟩=some (int i64 y.unt):=fun v=>za (zD (b':=d) b5 10 v (by omega)) 10 _ rfl
  go_upto_region 15 with fail;have b0:((F.setCell ⟨d,10,none⟩ (int i64 1)).setCell ⟨d,11,none⟩ (int i64 y.unt)).heap[d]?=some (.cells #[int i64 ((R:Int)+1),int i64 c,.string y.own,.slice n y.lgn o,int i64 y.pe,int i64 y.len,int i64 y.hei,int i64 y.cl,.bool y.all,int i64 y.be,int i64 1,int i64 y.unt,int i64 k] 131 (0,0)):=by simpa using zy (zy m 10 (int i64 1)) 11 (int i64 y.unt)
  have b6:Below V.heap.size V ((F.setCell ⟨d,10,none⟩ (int i64 1)).setCell ⟨d,11,none⟩ (int i64 y.unt)):=Below.setCell (p:=⟨d,11,none⟩) (Below.setCell (p:=⟨d,10,none⟩) M O _) O _;have g9:Hid (((F.setCell ⟨d,10,none⟩ (int i64 1)).setCell ⟨d,11,none⟩ (int i64 y.unt)).ownsRow V.heap.size 3 1 (.slice n y.lgn o) y.lgn (zJ y.lg y.lgn)):=(((zA.refl F (fun b=>b=d)).set (a:=⟨d,10,none⟩) rfl (int i64 1)).set (a:=⟨d,11,none⟩) rfl (int i64 y.unt)).own Q.out (qR Q.out m (by decide))
  generalize (F.setCell ⟨d,10,none⟩ (int i64 1)).setCell ⟨d,11,none⟩ (int i64 y.unt)=F2 at b0 b6 g9 ⊢;clear i5 i6 i7 i8 o0 j0;clear m M Q P b5 c4 F;have P:=zj I b6;have b5:=zc bO b6;have c4:=zc bA b6;have qF:=zc HQ.out P;have k6:g<w.heap.size:=zZ HQ.out;have c3:Hid (∀ z:World,z.heap[g]?=some (.cells #[.slice Y N a0,.slice X N Z,.slice r R G] 66 (0,0))->z.heap[d]?=some (.cells #[int i64 ((R:Int)+1),int i64 c,.string y.own,.slice n y.lgn o,int i64 y.pe,int i64 y.len,int i64 y.hei,int i64 y.cl,.bool y.all,int i64 y.be,int i64 1,int i64 y.unt,int i64 k] 131 (0,0))->z.cell? ⟨g,2,none⟩=some (.slice r R G)/\z.cell? ⟨d,0,none⟩=some (int i64 ((R:Int)+1))/\z.cell? ⟨d,1,none⟩=some (int i64 c)/\z.cell? ⟨d,2,none⟩=some (.string y.own)/\z.cell? ⟨d,3,none⟩=some (.slice n y.lgn o)/\z.cell? ⟨d,4,none⟩=some (int i64 y.pe)/\z.cell? ⟨d,5,none⟩=some (int i64 y.len)/\z.cell? ⟨d,6,none⟩=some (int i64 y.hei)/\z.cell? ⟨d,7,none⟩=some (int i64 y.cl)/\z.cell? ⟨d,8,none⟩=some (.bool y.all)/\z.cell? ⟨d,9,none⟩=some (int i64 y.be)/\z.cell? ⟨d,10,none⟩=some (int i64 1)/\z.cell? ⟨d,11,none⟩=some (int i64 y.unt)/\z.cell? ⟨d,12,none⟩=some (int i64 k)):=fun z h1 h2=>⟨za h1 2 _ rfl,za h2 0 _ rfl,za h2 1 _ rfl,za h2 2 _ rfl,za h2 3 _ rfl,za h2 4 _ rfl,za h2 5 _ rfl,za h2 6 _ rfl,za h2 7 _ rfl,za h2 8 _ rfl,za h2 9 _ rfl,za h2 10 _ rfl,za h2 11 _ rfl,za h2 12 _ rfl⟩
  refine qy 10 11 (fun w'=>w'.cell? ⟨g,2,none⟩=some (.slice r R G)/\w'.cell? ⟨d,0,none⟩=some (int i64 ((R:Int)+1))/\w'.cell? ⟨d,1,none⟩=some (int i64 c)/\w'.cell? ⟨d,2,none⟩=some (.string y.own)/\w'.cell? ⟨d,3,none⟩=some (.slice n y.lgn o)/\w'.cell? ⟨d,4,none⟩=some (int i64 y.pe)/\w'.cell? ⟨d,5,none⟩=some (int i64 y.len)/\w'.cell? ⟨d,6,none⟩=some (int i64 y.hei)/\w'.cell? ⟨d,7,none⟩=some (int i64 y.cl)/\w'.cell? ⟨d,8,none⟩=some (.bool y.all)/\w'.cell? ⟨d,9,none⟩=some (int i64 y.be)/\w'.cell? ⟨d,10,none⟩=some (int i64 1)/\w'.cell? ⟨d,11,none⟩=some (int i64 y.unt)/\w'.cell? ⟨d,12,none⟩=some (int i64 k)) rfl (by kernel_rfl) (c3.out _ qF b0) (fun hS=>?_)
  simp only[List.replicate_succ,List.replicate_zero]
  (refine tkL 0 (v:=?_) rfl (by kernel_rfl) (fun _ _ _ h=>h) rfl (by assumption) ?_ ?_;rotate_left;focus(intro w' h;(try dsimp only at h);go_simp;try with_reducible rfl);simp only[Act.put,sB,sZ,sS])
  (refine tkL 1 (v:=?_) rfl (by kernel_rfl) (fun _ _ _ h=>h) rfl (by assumption) ?_ ?_;rotate_left;focus(intro w' h;(try dsimp only at h);go_simp;try with_reducible rfl);simp only[Act.put,sB,sZ,sS])
  (refine tkL 2 (v:=?_) rfl (by kernel_rfl) (fun _ _ _ h=>h) rfl (by assumption) ?_ ?_;rotate_left;focus(intro w' h;(try dsimp only at h);go_simp;try with_reducible rfl);simp only[Act.put,sB,sZ,sS])
  (refine tkL 3 (v:=?_) rfl (by kernel_rfl) (fun _ _ _ h=>h) rfl (by assumption) ?_ ?_;rotate_left;focus(intro w' h;(try dsimp only at h);go_simp;try with_reducible rfl);simp only[Act.put,sB,sZ,sS])
  (refine tkL 4 (v:=?_) rfl (by kernel_rfl) (fun _ _ _ h=>h) rfl (by assumption) ?_ ?_;rotate_left;focus(intro w' h;(try dsimp only at h);go_simp;try with_reducible rfl);simp only[Act.put,sB,sZ,sS])
  (refine tkL 5 (v:=?_) rfl (by kernel_rfl) (fun _ _ _ h=>h) rfl (by assumption) ?_ ?_;rotate_left;focus(intro w' h;(try dsimp only at h);go_simp;try with_reducible rfl);simp only[Act.put,sB,sZ,sS])
  refine zh (rs:=[6]) (by kernel_rfl) (by simp) ?_
  refine zd.consL rfl (fun K f=>?_) zd.nil
  refine Q1 (by rfl) 64 131 1 #[(0,.tmp 73)] (by rfl) Tryz.underlying64 #[int i64 ((R:Int)+1),int i64 c,.string y.own,.slice n y.lgn o,int i64 y.pe,int i64 y.len,int i64 y.hei,int i64 y.cl,.bool y.all,int i64 y.be,int i64 1,int i64 y.unt,int i64 k] (Eq.trans (congrArg (Program.builtSlice Tryz.prog 131 1) (show _=[(0,Value.agg #[int i64 ((R:Int)+1),int i64 c,.string y.own,.slice n y.lgn o,int i64 y.pe,int i64 y.len,int i64 y.hei,int i64 y.cl,.bool y.all,int i64 y.be,int i64 1,int i64 y.unt,int i64 k])] from by first|(simp[go_sem];done)|rfl|kernel_rfl)) (zbJ ((R:Int)+1) c y.pe y.len y.hei y.cl y.be 1 y.unt k y.own y.all n y.lgn o)) ?_
  refine f.out _ _ (c3.out _ (ze qF _) (ze b0 _)) (fun hS=>?_)
  clear f K;simp only[Act.put,sB,sZ,sS];have j7:F2.drew.heap.size=F2.heap.size:=rfl;refine zh (rs:=[7]) (by kernel_rfl) (by simp) ?_
  refine zd.consL rfl (fun K f=>?_) zd.nil
  have a1:Hid (zV (F2.drew.alloc (.cells #[int i64 ((R:Int)+1),int i64 c,.string y.own,.slice n y.lgn o,int i64 y.pe,int i64 y.len,int i64 y.hei,int i64 y.cl,.bool y.all,int i64 y.be,int i64 1,int i64 y.unt,int i64 k] 131)) base (.slice Y N a0) (.slice X N Z) (.slice r R G) N N R x L C A B D E):=HO.out.below (zr (Below.drew P) _);refine step_append_lies _ (by rfl) (.tmp 72) (.tmp 74) 64 (by rfl) base 131 r0 (.agg #[int i64 0,int i64 0,.string ⟨#[]⟩,.slice none 0 0,int i64 0,int i64 0,int i64 0,int i64 0,.bool false,int i64 0,int i64 0,int i64 0,int i64 0]) 13 128 Tryz.underlying64 ri j2 j3 j4 rfl (by decide) _ R (Qp x.bk E R) (by rfl) a1.out.bk.row _ 1 1 [int i64 ((R:Int)+1),int i64 c,.string y.own,.slice n y.lgn o,int i64 y.pe,int i64 y.len,int i64 y.hei,int i64 y.cl,.bool y.all,int i64 y.be,int i64 1,int i64 y.unt,int i64 k] (by rfl) (by rfl) (World.news_of_block (cs:=#[int i64 ((R:Int)+1),int i64 c,.string y.own,.slice n y.lgn o,int i64 y.pe,int i64 y.len,int i64 y.hei,int i64 y.cl,.bool y.all,int i64 y.be,int i64 1,int i64 y.unt,int i64 k]) (t:=131) (fr:=(0,0)) (heap_alloc_new F2.drew _)) (by intro u hu;simp at hu;rcases hu with rfl|rfl|rfl|rfl|rfl|rfl|rfl|rfl|rfl|rfl|rfl|rfl|rfl <;> rfl) (by decide) (by unfold maxLen;omega) (by omega) (by have:=f9.out;have:=P.size;simp;omega) _ rfl ?_
  intro g2 s u2 h6 a9 j5 j6;have qU:=(zO a9).blk (ze (zF qF) (.cells #[int i64 ((R:Int)+1),int i64 c,.string y.own,.slice n y.lgn o,int i64 y.pe,int i64 y.len,int i64 y.hei,int i64 y.cl,.bool y.all,int i64 y.be,int i64 1,int i64 y.unt,int i64 k] 131)) (fun e=>by obtain⟨cs,e2⟩:=zT a1.out.bk.row g e;rw[ze (zF qF) (.cells #[int i64 ((R:Int)+1),int i64 c,.string y.own,.slice n y.lgn o,int i64 y.pe,int i64 y.len,int i64 y.hei,int i64 y.cl,.bool y.all,int i64 y.be,int i64 1,int i64 y.unt,int i64 k] 131)] at e2;simp at e2)
  have bU:=(zO a9).blk (ze (zF b0) (.cells #[int i64 ((R:Int)+1),int i64 c,.string y.own,.slice n y.lgn o,int i64 y.pe,int i64 y.len,int i64 y.hei,int i64 y.cl,.bool y.all,int i64 y.be,int i64 1,int i64 y.unt,int i64 k] 131)) (fun e=>by have h1:=(HO.out.bk.row.lt d e).2;have:=I.size;omega)
  have aU:=(zO a9).blk (ze (zF c4) (.cells #[int i64 ((R:Int)+1),int i64 c,.string y.own,.slice n y.lgn o,int i64 y.pe,int i64 y.len,int i64 y.hei,int i64 y.cl,.bool y.all,int i64 y.be,int i64 1,int i64 y.unt,int i64 k] 131)) (fun e=>by have h1:=(HO.out.bk.row.lt _ e).2;omega)
  refine f.out _ _ (c3.out _ qU bU) (fun hS=>?_)
  clear f K;simp only[Act.put,sB,sZ,sS]
  (refine tkL 8 (v:=?_) rfl (by kernel_rfl) (fun _ _ _ h=>h) rfl (by assumption) ?_ ?_;rotate_left;focus(intro w' h;(try dsimp only at h);go_simp;try with_reducible rfl);simp only[Act.put,sB,sZ,sS])
  (refine tkL 9 (v:=?_) rfl (by kernel_rfl) (fun _ _ _ h=>h) rfl (by assumption) ?_ ?_;rotate_left;focus(intro w' h;(try dsimp only at h);go_simp;try with_reducible rfl);simp only[Act.put,sB,sZ,sS])
  have q0:=za qU 2 _ rfl;have j1:=zg qU 2;refine zh (rs:=[10]) (by kernel_rfl) (by simp) ?_
  refine zd.lastL rfl (fun K f=>?_)
  go_simp;refine f.out _ _ ?_;clear f K;refine zH (by kernel_rfl) ?_ _
  have qG:=zgI qU (.slice (some ⟨g2,0,none⟩) (R+1) s);have bG:=zD (b':=g) bU 2 (.slice (some ⟨g2,0,none⟩) (R+1) s) (by omega)
  have aG:=zD (b':=g) aU 2 (.slice (some ⟨g2,0,none⟩) (R+1) s) (by omega)
  have g5:Hid (Qa R c y=⟨(R:Int)+1,c,y.own,y.lgn,y.lg,y.pe,y.len,y.hei,y.cl,y.all,y.be,1,y.unt,k⟩):=by show _=_;unfold Qa;rw[i1.out,← g8.out];rfl
  have i4:Hid (zV (F2.drew.alloc (.cells #[int i64 ((R:Int)+1),int i64 c,.string y.own,.slice n y.lgn o,int i64 y.pe,int i64 y.len,int i64 y.hei,int i64 y.cl,.bool y.all,int i64 y.be,int i64 1,int i64 y.unt,int i64 k] 131)) base (.slice Y N a0) (.slice X N Z) (.slice r R G) N N R { x with bkn:=R+1,bk:=QC x.bk R (Qa R c y) } L C A B D E):=⟨a1.out.sa,a1.out.ld,a1.out.bk.congr (fun i hi=>(Qr _ _ _ (by omega)).symm)⟩
  have i3:Hid (zV u2 base (.slice Y N a0) (.slice X N Z) (.slice (some ⟨g2,0,none⟩) (R+1) s) N N (R+1) { x with bkn:=R+1,bk:=QC x.bk R (Qa R c y) } L C A B D (atV E R (.slice n y.lgn o))):=by
   refine i4.out.book (lim:=V.heap.size) (fun i hi b e=>by have h1:=((HO.out.bk.legs i hi).lt b e).2;have:=I.size;omega) ?_ (Nat.le_trans f9.out I.size) a9 ?_
   ·dsimp only
    rw[Zn,g5.out];exact zm (zr (Below.drew bZ) _) g9.out
   ·have e1:Qp (QC x.bk R (Qa R c y)) E R=Qp x.bk E R:=List.map_congr_left fun j hj=>by
     have k7:j<R*13:=by simpa using hj
     unfold recCell bkC;rw[Qr _ _ _ (by omega)]
    dsimp only;rw[e1];unfold bkC;rw[Zn,atV_at,g5.out];exact h6
  have b8:zA u2 (u2.setCell ⟨g,2,none⟩ (.slice (some ⟨g2,0,none⟩) (R+1) s)) (fun b=>b=g):=(zA.refl u2 (fun b=>b=g)).set (a:=⟨g,2,none⟩) rfl _
  have g7:Hid _:=i3.out.box b8 qU (by decide)
  have g4:Hid (zA w (u2.setCell ⟨g,2,none⟩ (.slice (some ⟨g2,0,none⟩) (R+1) s)) (fun b=>b=g∨(Value.slice r R G).ownBlock=some b)):=((zA.of_below (zr (Below.drew P) _)).trans ((zO a9).mono (fun b e=>.inr e))).trans (b8.mono (fun b e=>.inl e))
  have c0:=za bG 0 _ rfl;generalize u2.setCell ⟨g,2,none⟩ (.slice (some ⟨g2,0,none⟩) (R+1) s)=Z1 at qG bG aG b8 g7 g4 c0 ⊢;obtain⟨g6,h0,g3,bF⟩:=Q0 g4.out g7.out qG aG (by omega) (int i64 0) (int i64 ((R:Int)+1)) (int i64 k) (.slice none 0 0) rfl
  obtain⟨v0,v1,v2,v3⟩:=ce4 aG;obtain⟨e0,e1,e2,e3⟩:=fe4 aG;have b9:Hid _:=g6;have g1:Hid _:=h0;have g0:Hid _:=g3;clear g6 h0 g3;clear q0 j1 hS b8 h6;go_wp2;obtain⟨x0,x1,x2,x3⟩:=ce4 bF;refine bodyPost_ret (v:=.agg #[int i64 0,int i64 ((R:Int)+1),int i64 k,.slice none 0 0]) (by simp[results,Tryz.results123,go_sem,x0,x1,x2,x3]) rfl ?_
  rw[g8.out] at b9 g1 g0 ⊢;exact⟨_,_,_,_,rfl,rfl,b9.out,g1.out,g0.out⟩
theorem l7End_3 (g base N R Y X s G:Nat)(U T q n:Option Addr)(c:Int)(y:OpD)(x:Off)(L C A B D E:Nat->Value)(w:World)(hq:w.heap[g]?=some (.cells #[.slice U N Y,.slice T N X,.slice q R s] 66 (0,0)))(ho:zV w base (.slice U N Y) (.slice T N X) (.slice q R s) N N R x L C A B D E)(i4:x.bkn=R)(M:base<=w.heap.size)(f4:y.kind=3)(i9:In y.pe 0 20)(k7:y.lgn<=3)(i0:IntsAt w n y.lgn y.lg)(i3:SliceOk n y.lgn G)(i1:0<y.lgn->∀ a,n=some a->a.block<base)(hR:R<30) :
  Calls Tryz.prog 123 #[.pointer (some ⟨g,0,none⟩),int i64 c,.agg #[int i64 y.kind,.string y.own,int i64 y.name,.slice n y.lgn G,int i64 y.pe,int i64 y.len,int i64 y.hei,int i64 y.cl,.bool y.all,int i64 y.be,int i64 y.unt,int i64 y.now]] w fun e w'=>zbf g base N Y X U T (fun b=>b=g∨(Value.slice q R s).ownBlock=some b) { x with bkn:=R+1,bk:=QC x.bk R (Qa R c y) } 0 ((R:Int)+1) (Zg ⟨y.pe,y.len,y.hei,y.cl,y.all,y.be⟩ (y.lgn:Int)) (fun _ v=>v=.slice none 0 0) L C A B D w e w':=by
 obtain⟨n0,ni,f6,f7,f8⟩:=info_parts Tryz.infoInt;obtain⟨r0,ri,j1,j2,j3⟩:=info_parts Tryz.infoBookingO;rw[f4];have HO:=hI ho;have HQ:=hI hq;have i5:=hI f4;have j8:=hI i4;have f9:=hI M;have i6:=hI i0;have c3:=hI i3;have j7:=hI i1;clear ho hq f4 i4 M i0 i3 i1;obtain⟨m,f5⟩:∃ m,m=Zg ⟨y.pe,y.len,y.hei,y.cl,y.all,y.be⟩ (y.lgn:Int):=⟨_,rfl⟩;have g8:=hI f5;have H:Below w.heap.size w ((w.alloc (.cells #[int i64 3,.string y.own,int i64 y.name,.slice n y.lgn G,int i64 y.pe,int i64 y.len,int i64 y.hei,int i64 y.cl,.bool y.all,int i64 y.be,int i64 y.unt,int i64 y.now] 27)).alloc (.cells #[int i64 0,int i64 0,int i64 0,.slice none 0 0] 127)):=zr (zr bZ _) _;have Z:=ze (heap_alloc_new w (.cells #[int i64 3,.string y.own,int i64 y.name,.slice n y.lgn G,int i64 y.pe,int i64 y.len,int i64 y.hei,int i64 y.cl,.bool y.all,int i64 y.be,int i64 y.unt,int i64 y.now] 27)) (.cells #[int i64 0,int i64 0,int i64 0,.slice none 0 0] 127);have bA:=zcC w (.cells #[int i64 3,.string y.own,int i64 y.name,.slice n y.lgn G,int i64 y.pe,int i64 y.len,int i64 y.hei,int i64 y.cl,.bool y.all,int i64 y.be,int i64 y.unt,int i64 y.now] 27) (.cells #[int i64 0,int i64 0,int i64 0,.slice none 0 0] 127);go_enter Tryz.func123,Tryz.ntmps123;go_wp2_with fail;generalize ((w.alloc (.cells #[int i64 3,.string y.own,int i64 y.name,.slice n y.lgn G,int i64 y.pe,int i64 y.len,int i64 y.hei,int i64 y.cl,.bool y.all,int i64 y.be,int i64 y.unt,int i64 y.now] 27)).alloc (.cells #[int i64 0,int i64 0,int i64 0,.slice none 0 0] 127))=W at H Z bA ⊢;refine(qV y.pe y.len y.hei y.cl y.all y.be (y.lgn:Int) _ i9 (by unfold In;omega)).mono ?_
 rintro e V ⟨rfl,b8⟩;rw[← f5];clear f5;replace H:=zj H b8;replace Z:=zc Z b8;replace bA:=zc bA b8;clear b8 W;have o0:=za Z 0 _ rfl;have j9:((R:Int) == 30)=false:=by simp;omega
 have k0:(R == 30)=false:=by simp;omega
 have k8:IntKind.i64.wrap ((R:Int)+1)=(R:Int)+1:=by rw[IntKind.wrap_i64];omega
 have zq:=za (zc HQ.out H) 2 _ rfl;have c2:Hid (∀ z,Below V.heap.size V z->IntsAt z n y.lgn y.lg):=fun z h=>i6.out.below (zj H h)
 have KS:Hid (∀ z,Below V.heap.size V z->z.cell? ⟨g,2,none⟩=some (.slice q R s)/\z.cell? ⟨w.heap.size,1,none⟩=some (.string y.own)/\z.cell? ⟨w.heap.size,3,none⟩=some (.slice n y.lgn G)/\z.cell? ⟨w.heap.size,4,none⟩=some (int i64 y.pe)/\z.cell? ⟨w.heap.size,5,none⟩=some (int i64 y.len)/\z.cell? ⟨w.heap.size,6,none⟩=some (int i64 y.hei)/\z.cell? ⟨w.heap.size,7,none⟩=some (int i64 y.cl)/\z.cell? ⟨w.heap.size,8,none⟩=some (.bool y.all)/\z.cell? ⟨w.heap.size,9,none⟩=some (int i64 y.be)):=fun z h=>⟨za (zc HQ.out (zj H h)) 2 _ rfl,za (zc Z h) 1 _ rfl,za (zc Z h) 3 _ rfl,za (zc Z h) 4 _ rfl,za (zc Z h) 5 _ rfl,za (zc Z h) 6 _ rfl,za (zc Z h) 7 _ rfl,za (zc Z h) 8 _ rfl,za (zc Z h) 9 _ rfl⟩
 go_upto_region 11 with fail;refine qy 18 19 (fun w'=>w'.cell? ⟨g,2,none⟩=some (.slice q R s)/\w'.cell? ⟨w.heap.size,1,none⟩=some (.string y.own)/\w'.cell? ⟨w.heap.size,3,none⟩=some (.slice n y.lgn G)/\w'.cell? ⟨w.heap.size,4,none⟩=some (int i64 y.pe)/\w'.cell? ⟨w.heap.size,5,none⟩=some (int i64 y.len)/\w'.cell? ⟨w.heap.size,6,none⟩=some (int i64 y.hei)/\w'.cell? ⟨w.heap.size,7,none⟩=some (int i64 y.cl)/\w'.cell? ⟨w.heap.size,8,none⟩=some (.bool y.all)/\w'.cell? ⟨w.heap.size,9,none⟩=some (int i64 y.be)) rfl (by kernel_rfl) (KS.out _ (Below.drew bZ)) (fun hS=>?_)
 simp only[List.replicate_succ,List.replicate_zero]
 (refine tkL 0 (v:=?_) rfl (by kernel_rfl) (fun _ _ _ h=>h) rfl (by assumption) ?_ ?_;rotate_left;focus(intro w' h;(try dsimp only at h);go_simp;try with_reducible rfl);simp only[Act.put,sB,sZ,sS])
 (refine tkL 1 (v:=?_) rfl (by kernel_rfl) (fun _ _ _ h=>h) rfl (by assumption) ?_ ?_;rotate_left;focus(intro w' h;(try dsimp only at h);go_simp;try with_reducible rfl);simp only[Act.put,sB,sZ,sS])
 (refine tkL 2 (v:=?_) rfl (by kernel_rfl) (fun _ _ _ h=>h) rfl (by assumption) ?_ ?_;rotate_left;focus(intro w' h;(try dsimp only at h);go_simp;try with_reducible rfl);simp only[Act.put,sB,sZ,sS])
 (refine tkL 3 (v:=?_) rfl (by kernel_rfl) (fun _ _ _ h=>h) rfl (by assumption) ?_ ?_;rotate_left;focus(intro w' h;(try dsimp only at h);go_simp;try with_reducible rfl);simp only[Act.put,sB,sZ,sS])
 (refine tkL 4 (v:=?_) rfl (by kernel_rfl) (fun _ _ _ h=>h) rfl (by assumption) ?_ ?_;rotate_left;focus(intro w' h;(try dsimp only at h);go_simp;try with_reducible rfl);simp only[Act.put,sB,sZ,sS])
 (refine tkL 5 (v:=?_) rfl (by kernel_rfl) (fun _ _ _ h=>h) rfl (by assumption) ?_ ?_;rotate_left;focus(intro w' h;(try dsimp only at h);go_simp;try with_reducible rfl);simp only[Act.put,sB,sZ,sS])
 (refine tkL 6 (v:=?_) rfl (by kernel_rfl) (fun _ _ _ h=>h) rfl (by assumption) ?_ ?_;rotate_left;focus(intro w' h;(try dsimp only at h);go_simp;try with_reducible rfl);simp only[Act.put,sB,sZ,sS])
 (refine tkL 7 (v:=?_) rfl (by kernel_rfl) (fun _ _ _ h=>h) rfl (by assumption) ?_ ?_;rotate_left;focus(intro w' h;(try dsimp only at h);go_simp;try with_reducible rfl);simp only[Act.put,sB,sZ,sS])
 (refine tkL 8 (v:=?_) rfl (by kernel_rfl) (fun _ _ _ h=>h) rfl (by assumption) ?_ ?_;rotate_left;focus(intro w' h;(try dsimp only at h);go_simp;try with_reducible rfl);simp only[Act.put,sB,sZ,sS])
 (refine tkL 10 (v:=?_) rfl (by kernel_rfl) (fun _ _ _ h=>h) rfl (by assumption) ?_ ?_;rotate_left;focus(intro w' h;(try dsimp only at h);go_simp;try with_reducible rfl);simp only[Act.put,sB,sZ,sS])
 (refine tkL 11 (v:=?_) rfl (by kernel_rfl) (fun _ _ _ h=>h) rfl (by assumption) ?_ ?_;rotate_left;focus(intro w' h;(try dsimp only at h);go_simp;try with_reducible rfl);simp only[Act.put,sB,sZ,sS])
 (refine tkL 13 (v:=?_) rfl (by kernel_rfl) (fun _ _ _ h=>h) rfl (by assumption) ?_ ?_;rotate_left;focus(intro w' h;(try dsimp only at h);go_simp;try with_reducible rfl);simp only[Act.put,sB,sZ,sS])
 (refine tkL 14 (v:=?_) rfl (by kernel_rfl) (fun _ _ _ h=>h) rfl (by assumption) ?_ ?_;rotate_left;focus(intro w' h;(try dsimp only at h);go_simp;try with_reducible rfl);simp only[Act.put,sB,sZ,sS])
 (refine tkL 15 (v:=?_) rfl (by kernel_rfl) (fun _ _ _ h=>h) rfl (by assumption) ?_ ?_;rotate_left;focus(intro w' h;(try dsimp only at h);go_simp;try with_reducible rfl);simp only[Act.put,sB,sZ,sS])
 refine zh (rs:=[9,17]) (by kernel_rfl) (by simp) ?_
 refine zd.consL rfl (fun K d=>?_) (zd.consL rfl (fun K d=>?_) zd.nil)
 focus
  go_simp;refine d.out _ _ (KS.out _ (by repeat(first|with_reducible exact k.out|with_reducible exact bZ|with_reducible refine Below.drew ?_|with_reducible refine zr ?_ _))) (fun hS=>?_)
  clear d K;simp only[sZ,sS];refine zh (rs:=[12,17]) (by kernel_rfl) (by simp) ?_
  refine zd.consL rfl (fun K d=>?_) (zd.consL rfl (fun K d=>?_) zd.nil)
  focus
   refine zN (by rfl) (.tmp 53) (.tmp 55) 23 (by rfl) 3 n0 (int i64 0) 1 8 Tryz.underlying23 ni f6 f7 f8 rfl (by decide) V.heap.size _ (by rfl) (by first|exact Nat.le_refl _|omega|(simp;done)|(simp;omega)) (by repeat(first|((with_reducible refine qY _ _ _ ?_);(first|with_reducible rfl|(simp;done)))|with_reducible refine zF ?_|with_reducible refine ze ?_ _)) n y.lgn G (zJ y.lg y.lgn) (by rfl) c3.out.2.2 (by rw[intList_length,Nat.mul_one]) (qX (c2.out _ (by repeat(first|exact bZ|refine Below.drew ?_|refine zr ?_ _)))) (intList_one _ _) (by unfold maxLen;omega) (by omega) ?_;intro o p u1 Q S P;clear P;have k:Hid (Below V.heap.size V u1):=(by show Below _ _ _;refine zj ?_ (zl Q);exact(by repeat(first|exact bZ|refine Below.drew ?_|refine zr ?_ _)));refine d.out _ _ (KS.out _ k.out) (fun hS=>?_)
   clear d K;simp only[Act.put,sB,sZ,sS]
   (refine tkL 16 (v:=?_) rfl (by kernel_rfl) (fun _ _ _ h=>h) rfl (by assumption) ?_ ?_;rotate_left;focus(intro w' h;(try dsimp only at h);go_simp;try with_reducible rfl);simp only[Act.put,sB,sZ,sS])
   refine zh (rs:=[17]) (by kernel_rfl) (by simp) ?_
   refine zd.consL rfl (fun K d=>?_) zd.nil
   focus
    go_simp;refine d.out _ _ (KS.out _ (by repeat(first|with_reducible exact k.out|with_reducible exact bZ|with_reducible refine Below.drew ?_|with_reducible refine zr ?_ _))) (fun hS=>?_)
    clear d K;simp only[sZ,sS];refine zh (rs:=[18]) (by kernel_rfl) (by simp) ?_
    refine zd.lastL rfl (fun K d=>?_)
    go_simp;refine d.out _ _ ?_;clear d K;refine zH (by kernel_rfl) ?_ _
    have l:=heap_alloc_new u1 (.cells #[int i64 ((R:Int)+1),int i64 c,.string y.own,.slice o y.lgn p,int i64 y.pe,int i64 y.len,int i64 y.hei,int i64 y.cl,.bool y.all,int i64 y.be,int i64 2,int i64 0,int i64 m] 131);have I:=zr k.out (.cells #[int i64 ((R:Int)+1),int i64 c,.string y.own,.slice o y.lgn p,int i64 y.pe,int i64 y.len,int i64 y.hei,int i64 y.cl,.bool y.all,int i64 y.be,int i64 2,int i64 0,int i64 m] 131);have O:Hid _:=zm (zr bZ (.cells #[int i64 ((R:Int)+1),int i64 c,.string y.own,.slice o y.lgn p,int i64 y.pe,int i64 y.len,int i64 y.hei,int i64 y.cl,.bool y.all,int i64 y.be,int i64 2,int i64 0,int i64 m] 131)) S;generalize u1.alloc (.cells #[int i64 ((R:Int)+1),int i64 c,.string y.own,.slice o y.lgn p,int i64 y.pe,int i64 y.len,int i64 y.hei,int i64 y.cl,.bool y.all,int i64 y.be,int i64 2,int i64 0,int i64 m] 131)=F at l I O ⊢;have a0:V.heap.size<=u1.heap.size:=k.out.size;generalize u1.heap.size=f at l a0 ⊢
  rotate_left 1
  focus
   go_simp;refine d.out _ _ (KS.out _ (by repeat(first|with_reducible exact k.out|with_reducible exact bZ|with_reducible refine Below.drew ?_|with_reducible refine zr ?_ _))) (fun hS=>?_)
   clear d K;simp only[sZ,sS];refine zh (rs:=[12]) (by kernel_rfl) (by simp) ?_
   refine zd.consL rfl (fun K d=>?_) zd.nil
   focus
    refine zN (by rfl) (.tmp 53) (.tmp 55) 23 (by rfl) 3 n0 (int i64 0) 1 8 Tryz.underlying23 ni f6 f7 f8 rfl (by decide) V.heap.size _ (by rfl) (by first|exact Nat.le_refl _|omega|(simp;done)|(simp;omega)) (by repeat(first|((with_reducible refine qY _ _ _ ?_);(first|with_reducible rfl|(simp;done)))|with_reducible refine zF ?_|with_reducible refine ze ?_ _)) n y.lgn G (zJ y.lg y.lgn) (by rfl) c3.out.2.2 (by rw[intList_length,Nat.mul_one]) (qX (c2.out _ (by repeat(first|exact bZ|refine Below.drew ?_|refine zr ?_ _)))) (intList_one _ _) (by unfold maxLen;omega) (by omega) ?_;intro o p u1 Q S P;clear P;have k:Hid (Below V.heap.size V u1):=(by show Below _ _ _;refine zj ?_ (zl Q);exact(by repeat(first|exact bZ|refine Below.drew ?_|refine zr ?_ _)));refine d.out _ _ (KS.out _ k.out) (fun hS=>?_)
    clear d K;simp only[Act.put,sB,sZ,sS]
    (refine tkL 16 (v:=?_) rfl (by kernel_rfl) (fun _ _ _ h=>h) rfl (by assumption) ?_ ?_;rotate_left;focus(intro w' h;(try dsimp only at h);go_simp;try with_reducible rfl);simp only[Act.put,sB,sZ,sS])
    have J:u1.heap[V.heap.size+1]?=some (.cells #[int i64 0,int i64 0,.string ⟨#[]⟩,.slice none 0 0,int i64 0,int i64 0,int i64 0,int i64 0,.bool false,int i64 0,int i64 0,int i64 0,int i64 0] 131 (0,0)):=zc (by repeat(first|((with_reducible refine qY _ _ _ ?_);(first|with_reducible rfl|(simp;done)))|with_reducible refine zF ?_|with_reducible refine ze ?_ _)) (zl Q)
    obtain⟨d9,e4,e5,e6,e7,e8,e9,f0,f1,f2,a6,a7,a8⟩:=ce13 J;obtain⟨c5,c6,c7,c8,c9,d0,d5,d6,d7,d8,a2,a3,a5⟩:=fe13 J;refine zh (rs:=[18]) (by kernel_rfl) (by simp) ?_
    refine zd.lastL rfl (fun K d=>?_)
    go_simp;refine d.out _ _ ?_;clear d K;refine zH (by kernel_rfl) ?_ _
    have l:=zcV J (int i64 ((R:Int)+1)) (int i64 c) (.string y.own) (.slice o y.lgn p) (int i64 y.pe) (int i64 y.len) (int i64 y.hei) (int i64 y.cl) (.bool y.all) (int i64 y.be) (int i64 2) (int i64 0) (int i64 m);have I:=zcW k.out (b:=V.heap.size+1) (by omega) (int i64 ((R:Int)+1)) (int i64 c) (.string y.own) (.slice o y.lgn p) (int i64 y.pe) (int i64 y.len) (int i64 y.hei) (int i64 y.cl) (.bool y.all) (int i64 y.be) (int i64 2) (int i64 0) (int i64 m)
    have O:Hid _:=(zbS u1 (V.heap.size+1) (int i64 ((R:Int)+1)) (int i64 c) (.string y.own) (.slice o y.lgn p) (int i64 y.pe) (int i64 y.len) (int i64 y.hei) (int i64 y.cl) (.bool y.all) (int i64 y.be) (int i64 2) (int i64 0) (int i64 m)).own S (qR S J (by decide))
    clear J d9 c5 e4 c6 e5 c7 e6 c8 e7 c9 e8 d0 e9 d5 f0 d6 f1 d7 f2 d8 a6 a2 a7 a3 a8 a5;generalize (((((((((((((u1.setCell ⟨V.heap.size+1,0,none⟩ (int i64 ((R:Int)+1))).setCell ⟨V.heap.size+1,1,none⟩ (int i64 c)).setCell ⟨V.heap.size+1,2,none⟩ (.string y.own)).setCell ⟨V.heap.size+1,3,none⟩ (.slice o y.lgn p)).setCell ⟨V.heap.size+1,4,none⟩ (int i64 y.pe)).setCell ⟨V.heap.size+1,5,none⟩ (int i64 y.len)).setCell ⟨V.heap.size+1,6,none⟩ (int i64 y.hei)).setCell ⟨V.heap.size+1,7,none⟩ (int i64 y.cl)).setCell ⟨V.heap.size+1,8,none⟩ (.bool y.all)).setCell ⟨V.heap.size+1,9,none⟩ (int i64 y.be)).setCell ⟨V.heap.size+1,10,none⟩ (int i64 2)).setCell ⟨V.heap.size+1,11,none⟩ (int i64 0)).setCell ⟨V.heap.size+1,12,none⟩ (int i64 m))=F at l I O ⊢;have a0:V.heap.size<=V.heap.size+1:=(by omega)
    generalize V.heap.size+1=f at l a0 ⊢
 rotate_left 2
 focus
  go_simp;refine d.out _ _ (KS.out _ (by repeat(first|with_reducible exact k.out|with_reducible exact bZ|with_reducible refine Below.drew ?_|with_reducible refine zr ?_ _))) (fun hS=>?_)
  clear d K;simp only[sZ,sS];refine zh (rs:=[9]) (by kernel_rfl) (by simp) ?_
  refine zd.consL rfl (fun K d=>?_) zd.nil
  focus
   go_simp;refine d.out _ _ (KS.out _ (by repeat(first|with_reducible exact k.out|with_reducible exact bZ|with_reducible refine Below.drew ?_|with_reducible refine zr ?_ _))) (fun hS=>?_)
   clear d K;simp only[sZ,sS];refine zh (rs:=[12]) (by kernel_rfl) (by simp) ?_
   refine zd.consL rfl (fun K d=>?_) zd.nil
   focus
    refine zN (by rfl) (.tmp 53) (.tmp 55) 23 (by rfl) 3 n0 (int i64 0) 1 8 Tryz.underlying23 ni f6 f7 f8 rfl (by decide) V.heap.size _ (by rfl) (by first|exact Nat.le_refl _|omega|(simp;done)|(simp;omega)) (by repeat(first|((with_reducible refine qY _ _ _ ?_);(first|with_reducible rfl|(simp;done)))|with_reducible refine zF ?_|with_reducible refine ze ?_ _)) n y.lgn G (zJ y.lg y.lgn) (by rfl) c3.out.2.2 (by rw[intList_length,Nat.mul_one]) (qX (c2.out _ (by repeat(first|exact bZ|refine Below.drew ?_|refine zr ?_ _)))) (intList_one _ _) (by unfold maxLen;omega) (by omega) ?_;intro o p u1 Q S P;clear P;have k:Hid (Below V.heap.size V u1):=(by show Below _ _ _;refine zj ?_ (zl Q);exact(by repeat(first|exact bZ|refine Below.drew ?_|refine zr ?_ _)));refine d.out _ _ (KS.out _ k.out) (fun hS=>?_)
    clear d K;simp only[Act.put,sB,sZ,sS]
    (refine tkL 16 (v:=?_) rfl (by kernel_rfl) (fun _ _ _ h=>h) rfl (by assumption) ?_ ?_;rotate_left;focus(intro w' h;(try dsimp only at h);go_simp;try with_reducible rfl);simp only[Act.put,sB,sZ,sS])
    have J:u1.heap[V.heap.size]?=some (.cells #[int i64 0,int i64 0,.string ⟨#[]⟩,.slice none 0 0,int i64 0,int i64 0,int i64 0,int i64 0,.bool false,int i64 0,int i64 0,int i64 0,int i64 0] 131 (0,0)):=zc (by repeat(first|((with_reducible refine qY _ _ _ ?_);(first|with_reducible rfl|(simp;done)))|with_reducible refine zF ?_|with_reducible refine ze ?_ _)) (zl Q)
    obtain⟨d9,e4,e5,e6,e7,e8,e9,f0,f1,f2,a6,a7,a8⟩:=ce13 J;obtain⟨c5,c6,c7,c8,c9,d0,d5,d6,d7,d8,a2,a3,a5⟩:=fe13 J;refine zh (rs:=[18]) (by kernel_rfl) (by simp) ?_
    refine zd.lastL rfl (fun K d=>?_)
    go_simp;refine d.out _ _ ?_;clear d K;refine zH (by kernel_rfl) ?_ _
    have l:=zcV J (int i64 ((R:Int)+1)) (int i64 c) (.string y.own) (.slice o y.lgn p) (int i64 y.pe) (int i64 y.len) (int i64 y.hei) (int i64 y.cl) (.bool y.all) (int i64 y.be) (int i64 2) (int i64 0) (int i64 m);have I:=zcW k.out (b:=V.heap.size) (by omega) (int i64 ((R:Int)+1)) (int i64 c) (.string y.own) (.slice o y.lgn p) (int i64 y.pe) (int i64 y.len) (int i64 y.hei) (int i64 y.cl) (.bool y.all) (int i64 y.be) (int i64 2) (int i64 0) (int i64 m)
    have O:Hid _:=(zbS u1 (V.heap.size) (int i64 ((R:Int)+1)) (int i64 c) (.string y.own) (.slice o y.lgn p) (int i64 y.pe) (int i64 y.len) (int i64 y.hei) (int i64 y.cl) (.bool y.all) (int i64 y.be) (int i64 2) (int i64 0) (int i64 m)).own S (qR S J (by decide))
    clear J d9 c5 e4 c6 e5 c7 e6 c8 e7 c9 e8 d0 e9 d5 f0 d6 f1 d7 f2 d8 a6 a2 a7 a3 a8 a5;generalize (((((((((((((u1.setCell ⟨V.heap.size,0,none⟩ (int i64 ((R:Int)+1))).setCell ⟨V.heap.size,1,none⟩ (int i64 c)).setCell ⟨V.heap.size,2,none⟩ (.string y.own)).setCell ⟨V.heap.size,3,none⟩ (.slice o y.lgn p)).setCell ⟨V.heap.size,4,none⟩ (int i64 y.pe)).setCell ⟨V.heap.size,5,none⟩ (int i64 y.len)).setCell ⟨V.heap.size,6,none⟩ (int i64 y.hei)).setCell ⟨V.heap.size,7,none⟩ (int i64 y.cl)).setCell ⟨V.heap.size,8,none⟩ (.bool y.all)).setCell ⟨V.heap.size,9,none⟩ (int i64 y.be)).setCell ⟨V.heap.size,10,none⟩ (int i64 2)).setCell ⟨V.heap.size,11,none⟩ (int i64 0)).setCell ⟨V.heap.size,12,none⟩ (int i64 m))=F at l I O ⊢;obtain⟨f,h9⟩:∃ f,f=V.heap.size:=⟨_,rfl⟩;rw[← h9] at l ⊢;have a0:V.heap.size<=f:=by omega
    clear h9
 all_goals
  clear hS Q S k;have M:=zj H I;have b6:=zc Z I;have b0:=zc bA I;have o0:=za b6 0 _ rfl;have k4:w.heap.size+1<V.heap.size:=zZ bA;have h0:=za l 10 _ rfl;have h3:=za l 11 _ rfl;have h4:=zg l 10;have h5:=zg l 11;go_upto_region 15 with fail;have b5:=l;have b7:=I;have g9:=hI O.out;generalize F=F2 at b5 b7 g9 l I O M b6 b0 o0 h0 h3 h4 h5 ⊢;clear h0 h3 h4 h5 o0;clear l I O M b6 b0;have M:=zj H b7;have b6:=zc Z b7;have b0:=zc bA b7;have qF:=zc HQ.out M;have k5:g<w.heap.size:=zZ HQ.out;have c4:Hid (∀ z:World,z.heap[g]?=some (.cells #[.slice U N Y,.slice T N X,.slice q R s] 66 (0,0))->z.heap[f]?=some (.cells #[int i64 ((R:Int)+1),int i64 c,.string y.own,.slice o y.lgn p,int i64 y.pe,int i64 y.len,int i64 y.hei,int i64 y.cl,.bool y.all,int i64 y.be,int i64 2,int i64 0,int i64 m] 131 (0,0))->z.cell? ⟨g,2,none⟩=some (.slice q R s)/\z.cell? ⟨f,0,none⟩=some (int i64 ((R:Int)+1))/\z.cell? ⟨f,1,none⟩=some (int i64 c)/\z.cell? ⟨f,2,none⟩=some (.string y.own)/\z.cell? ⟨f,3,none⟩=some (.slice o y.lgn p)/\z.cell? ⟨f,4,none⟩=some (int i64 y.pe)/\z.cell? ⟨f,5,none⟩=some (int i64 y.len)/\z.cell? ⟨f,6,none⟩=some (int i64 y.hei)/\z.cell? ⟨f,7,none⟩=some (int i64 y.cl)/\z.cell? ⟨f,8,none⟩=some (.bool y.all)/\z.cell? ⟨f,9,none⟩=some (int i64 y.be)/\z.cell? ⟨f,10,none⟩=some (int i64 2)/\z.cell? ⟨f,11,none⟩=some (int i64 0)/\z.cell? ⟨f,12,none⟩=some (int i64 m)):=fun z h1 h2=>⟨za h1 2 _ rfl,za h2 0 _ rfl,za h2 1 _ rfl,za h2 2 _ rfl,za h2 3 _ rfl,za h2 4 _ rfl,za h2 5 _ rfl,za h2 6 _ rfl,za h2 7 _ rfl,za h2 8 _ rfl,za h2 9 _ rfl,za h2 10 _ rfl,za h2 11 _ rfl,za h2 12 _ rfl⟩
  refine qy 10 11 (fun w'=>w'.cell? ⟨g,2,none⟩=some (.slice q R s)/\w'.cell? ⟨f,0,none⟩=some (int i64 ((R:Int)+1))/\w'.cell? ⟨f,1,none⟩=some (int i64 c)/\w'.cell? ⟨f,2,none⟩=some (.string y.own)/\w'.cell? ⟨f,3,none⟩=some (.slice o y.lgn p)/\w'.cell? ⟨f,4,none⟩=some (int i64 y.pe)/\w'.cell? ⟨f,5,none⟩=some (int i64 y.len)/\w'.cell? ⟨f,6,none⟩=some (int i64 y.hei)/\w'.cell? ⟨f,7,none⟩=some (int i64 y.cl)/\w'.cell? ⟨f,8,none⟩=some (.bool y.all)/\w'.cell? ⟨f,9,none⟩=some (int i64 y.be)/\w'.cell? ⟨f,10,none⟩=some (int i64 2)/\w'.cell? ⟨f,11,none⟩=some (int i64 0)/\w'.cell? ⟨f,12,none⟩=some (int i64 m)) rfl (by kernel_rfl) (c4.out _ qF b5) (fun hS=>?_)
  simp only[List.replicate_succ,List.replicate_zero]
  (refine tkL 0 (v:=?_) rfl (by kernel_rfl) (fun _ _ _ h=>h) rfl (by assumption) ?_ ?_;rotate_left;focus(intro w' h;(try dsimp only at h);go_simp;try with_reducible rfl);simp only[Act.put,sB,sZ,sS])
  (refine tkL 1 (v:=?_) rfl (by kernel_rfl) (fun _ _ _ h=>h) rfl (by assumption) ?_ ?_;rotate_left;focus(intro w' h;(try dsimp only at h);go_simp;try with_reducible rfl);simp only[Act.put,sB,sZ,sS])
  (refine tkL 2 (v:=?_) rfl (by kernel_rfl) (fun _ _ _ h=>h) rfl (by assumption) ?_ ?_;rotate_left;focus(intro w' h;(try dsimp only at h);go_simp;try with_reducible rfl);simp only[Act.put,sB,sZ,sS])
  (refine tkL 3 (v:=?_) rfl (by kernel_rfl) (fun _ _ _ h=>h) rfl (by assumption) ?_ ?_;rotate_left;focus(intro w' h;(try dsimp only at h);go_simp;try with_reducible rfl);simp only[Act.put,sB,sZ,sS])
  (refine tkL 4 (v:=?_) rfl (by kernel_rfl) (fun _ _ _ h=>h) rfl (by assumption) ?_ ?_;rotate_left;focus(intro w' h;(try dsimp only at h);go_simp;try with_reducible rfl);simp only[Act.put,sB,sZ,sS])
  (refine tkL 5 (v:=?_) rfl (by kernel_rfl) (fun _ _ _ h=>h) rfl (by assumption) ?_ ?_;rotate_left;focus(intro w' h;(try dsimp only at h);go_simp;try with_reducible rfl);simp only[Act.put,sB,sZ,sS])
  refine zh (rs:=[6]) (by kernel_rfl) (by simp) ?_
  refine zd.consL rfl (fun K d=>?_) zd.nil
  refine Q1 (by rfl) 64 131 1 #[(0,.tmp 73)] (by rfl) Tryz.underlying64 #[int i64 ((R:Int)+1),int i64 c,.string y.own,.slice o y.lgn p,int i64 y.pe,int i64 y.len,int i64 y.hei,int i64 y.cl,.bool y.all,int i64 y.be,int i64 2,int i64 0,int i64 m] (Eq.trans (congrArg (Program.builtSlice Tryz.prog 131 1) (show _=[(0,Value.agg #[int i64 ((R:Int)+1),int i64 c,.string y.own,.slice o y.lgn p,int i64 y.pe,int i64 y.len,int i64 y.hei,int i64 y.cl,.bool y.all,int i64 y.be,int i64 2,int i64 0,int i64 m])] from by first|(simp[go_sem];done)|rfl|kernel_rfl)) (zbJ ((R:Int)+1) c y.pe y.len y.hei y.cl y.be 2 0 m y.own y.all o y.lgn p)) ?_
  refine d.out _ _ (c4.out _ (ze qF _) (ze b5 _)) (fun hS=>?_)
  clear d K;simp only[Act.put,sB,sZ,sS];have j6:F2.drew.heap.size=F2.heap.size:=rfl;refine zh (rs:=[7]) (by kernel_rfl) (by simp) ?_
  refine zd.consL rfl (fun K d=>?_) zd.nil
  have a1:Hid (zV (F2.drew.alloc (.cells #[int i64 ((R:Int)+1),int i64 c,.string y.own,.slice o y.lgn p,int i64 y.pe,int i64 y.len,int i64 y.hei,int i64 y.cl,.bool y.all,int i64 y.be,int i64 2,int i64 0,int i64 m] 131)) base (.slice U N Y) (.slice T N X) (.slice q R s) N N R x L C A B D E):=HO.out.below (zr (Below.drew M) _);refine step_append_lies _ (by rfl) (.tmp 72) (.tmp 74) 64 (by rfl) base 131 r0 (.agg #[int i64 0,int i64 0,.string ⟨#[]⟩,.slice none 0 0,int i64 0,int i64 0,int i64 0,int i64 0,.bool false,int i64 0,int i64 0,int i64 0,int i64 0]) 13 128 Tryz.underlying64 ri j1 j2 j3 rfl (by decide) _ R (Qp x.bk E R) (by rfl) a1.out.bk.row _ 1 1 [int i64 ((R:Int)+1),int i64 c,.string y.own,.slice o y.lgn p,int i64 y.pe,int i64 y.len,int i64 y.hei,int i64 y.cl,.bool y.all,int i64 y.be,int i64 2,int i64 0,int i64 m] (by rfl) (by rfl) (World.news_of_block (cs:=#[int i64 ((R:Int)+1),int i64 c,.string y.own,.slice o y.lgn p,int i64 y.pe,int i64 y.len,int i64 y.hei,int i64 y.cl,.bool y.all,int i64 y.be,int i64 2,int i64 0,int i64 m]) (t:=131) (fr:=(0,0)) (heap_alloc_new F2.drew _)) (by intro u hu;simp at hu;rcases hu with rfl|rfl|rfl|rfl|rfl|rfl|rfl|rfl|rfl|rfl|rfl|rfl|rfl <;> rfl) (by decide) (by unfold maxLen;omega) (by omega) (by have:=f9.out;have:=M.size;simp;omega) _ rfl ?_
  intro g2 r u2 i2 a9 j4 j5;have qU:=(zO a9).blk (ze (zF qF) (.cells #[int i64 ((R:Int)+1),int i64 c,.string y.own,.slice o y.lgn p,int i64 y.pe,int i64 y.len,int i64 y.hei,int i64 y.cl,.bool y.all,int i64 y.be,int i64 2,int i64 0,int i64 m] 131)) (fun e=>by obtain⟨cs,e2⟩:=zT a1.out.bk.row g e;rw[ze (zF qF) (.cells #[int i64 ((R:Int)+1),int i64 c,.string y.own,.slice o y.lgn p,int i64 y.pe,int i64 y.len,int i64 y.hei,int i64 y.cl,.bool y.all,int i64 y.be,int i64 2,int i64 0,int i64 m] 131)] at e2;simp at e2)
  have bU:=(zO a9).blk (ze (zF b5) (.cells #[int i64 ((R:Int)+1),int i64 c,.string y.own,.slice o y.lgn p,int i64 y.pe,int i64 y.len,int i64 y.hei,int i64 y.cl,.bool y.all,int i64 y.be,int i64 2,int i64 0,int i64 m] 131)) (fun e=>by have h1:=(HO.out.bk.row.lt f e).2;have:=H.size;omega)
  have aU:=(zO a9).blk (ze (zF b0) (.cells #[int i64 ((R:Int)+1),int i64 c,.string y.own,.slice o y.lgn p,int i64 y.pe,int i64 y.len,int i64 y.hei,int i64 y.cl,.bool y.all,int i64 y.be,int i64 2,int i64 0,int i64 m] 131)) (fun e=>by have h1:=(HO.out.bk.row.lt _ e).2;omega)
  refine d.out _ _ (c4.out _ qU bU) (fun hS=>?_)
  clear d K;simp only[Act.put,sB,sZ,sS]
  (refine tkL 8 (v:=?_) rfl (by kernel_rfl) (fun _ _ _ h=>h) rfl (by assumption) ?_ ?_;rotate_left;focus(intro w' h;(try dsimp only at h);go_simp;try with_reducible rfl);simp only[Act.put,sB,sZ,sS])
  (refine tkL 9 (v:=?_) rfl (by kernel_rfl) (fun _ _ _ h=>h) rfl (by assumption) ?_ ?_;rotate_left;focus(intro w' h;(try dsimp only at h);go_simp;try with_reducible rfl);simp only[Act.put,sB,sZ,sS])
  have q0:=za qU 2 _ rfl;have j0:=zg qU 2;refine zh (rs:=[10]) (by kernel_rfl) (by simp) ?_
  refine zd.lastL rfl (fun K d=>?_)
  go_simp;refine d.out _ _ ?_;clear d K;refine zH (by kernel_rfl) ?_ _
  have qG:=zgI qU (.slice (some ⟨g2,0,none⟩) (R+1) r);have bG:=zD (b':=g) bU 2 (.slice (some ⟨g2,0,none⟩) (R+1) r) (by omega)
  have aG:=zD (b':=g) aU 2 (.slice (some ⟨g2,0,none⟩) (R+1) r) (by omega)
  have g5:Hid (Qa R c y=⟨(R:Int)+1,c,y.own,y.lgn,y.lg,y.pe,y.len,y.hei,y.cl,y.all,y.be,2,0,m⟩):=by show _=_;unfold Qa;rw[i5.out,← g8.out];rfl
  have i8:Hid (zV (F2.drew.alloc (.cells #[int i64 ((R:Int)+1),int i64 c,.string y.own,.slice o y.lgn p,int i64 y.pe,int i64 y.len,int i64 y.hei,int i64 y.cl,.bool y.all,int i64 y.be,int i64 2,int i64 0,int i64 m] 131)) base (.slice U N Y) (.slice T N X) (.slice q R s) N N R { x with bkn:=R+1,bk:=QC x.bk R (Qa R c y) } L C A B D E):=⟨a1.out.sa,a1.out.ld,a1.out.bk.congr (fun i hi=>(Qr _ _ _ (by omega)).symm)⟩
  have i7:Hid (zV u2 base (.slice U N Y) (.slice T N X) (.slice (some ⟨g2,0,none⟩) (R+1) r) N N (R+1) { x with bkn:=R+1,bk:=QC x.bk R (Qa R c y) } L C A B D (atV E R (.slice o y.lgn p))):=by
   refine i8.out.book (lim:=V.heap.size) (fun i hi b e=>by have h1:=((HO.out.bk.legs i hi).lt b e).2;have:=H.size;omega) ?_ (Nat.le_trans f9.out H.size) a9 ?_
   ·dsimp only
    rw[Zn,g5.out];exact zm (zr (Below.drew bZ) _) g9.out
   ·have e1:Qp (QC x.bk R (Qa R c y)) E R=Qp x.bk E R:=List.map_congr_left fun j hj=>by
     have k6:j<R*13:=by simpa using hj
     unfold recCell bkC;rw[Qr _ _ _ (by omega)]
    dsimp only;rw[e1];unfold bkC;rw[Zn,atV_at,g5.out];exact i2
  have b9:zA u2 (u2.setCell ⟨g,2,none⟩ (.slice (some ⟨g2,0,none⟩) (R+1) r)) (fun b=>b=g):=(zA.refl u2 (fun b=>b=g)).set (a:=⟨g,2,none⟩) rfl _
  have g7:Hid _:=i7.out.box b9 qU (by decide)
  have g4:Hid (zA w (u2.setCell ⟨g,2,none⟩ (.slice (some ⟨g2,0,none⟩) (R+1) r)) (fun b=>b=g∨(Value.slice q R s).ownBlock=some b)):=((zA.of_below (zr (Below.drew M) _)).trans ((zO a9).mono (fun b e=>.inr e))).trans (b9.mono (fun b e=>.inl e))
  have c0:=za bG 0 _ rfl;generalize u2.setCell ⟨g,2,none⟩ (.slice (some ⟨g2,0,none⟩) (R+1) r)=Z1 at qG bG aG b9 g7 g4 c0 ⊢;obtain⟨g6,h6,g3,bF⟩:=Q0 g4.out g7.out qG aG (by omega) (int i64 0) (int i64 ((R:Int)+1)) (int i64 m) (.slice none 0 0) rfl
  obtain⟨v0,v1,v2,v3⟩:=ce4 aG;obtain⟨e0,e1,e2,e3⟩:=fe4 aG;have c1:Hid _:=g6;have g1:Hid _:=h6;have g0:Hid _:=g3;clear g6 h6 g3;clear q0 j0 hS b9 i2;go_wp2;obtain⟨x0,x1,x2,x3⟩:=ce4 bF;refine bodyPost_ret (v:=.agg #[int i64 0,int i64 ((R:Int)+1),int i64 m,.slice none 0 0]) (by simp[results,Tryz.results123,go_sem,x0,x1,x2,x3]) rfl ?_
  rw[g8.out] at c1 g1 g0 ⊢;exact⟨_,_,_,_,rfl,rfl,c1.out,g1.out,g0.out⟩
def zaI (x:Off)(b:ZK)(y:OpD):Int :=
 if y.kind=4 then b.price
 else if y.kind=5 then Zg ⟨y.pe,y.len,y.hei,y.cl,y.all,y.be⟩ y.lgn
 else if y.kind=6 then Qs b.price ((x.sa (qo x.sa (b.lg 0) x.san)).dep - y.now)
 else 0
def zeZ (x:Off)(a:Int)(y:OpD)(m:Nat)(b:Off)(code name price:Int):Prop :=
 (y.kind=1/\b=x/\code=0/\name=0/\price=Zg ⟨y.pe,y.len,y.hei,y.cl,y.all,y.be⟩ y.lgn) ∨
 (y.kind=9/\b=x/\code=0/\name=0/\price=0) ∨
 ((y.kind=2∨y.kind=3)/\x.bkn=30/\b=x/\code=8/\name=0/\price=0) ∨
 ((y.kind=2∨y.kind=3)/\x.bkn<30/\b={ x with bkn:=x.bkn+1,bk:=QC x.bk x.bkn (Qa x.bkn a y) }/\code=0/\name=(x.bkn:Int)+1/\price=Zg ⟨y.pe,y.len,y.hei,y.cl,y.all,y.be⟩ y.lgn) ∨
 (In y.kind 4 8/\m<x.bkn/\b={ x with bk:=QC x.bk m (qA (x.bk m) a y) }/\code=0/\name=y.name/\price=zaI x (x.bk m) y)
def zbC (x:Off)(y:OpD)(base:Nat)(z:World)(v:Value):Prop :=
 (y.kind=9->∃ k,qo x.sa (y.lg 0) x.san=k/\k<x.san/\z.ownsRow base 212 5 v (QJ (x.ld k) x.bk (y.lg 0) x.bkn).length (ZW (zii (QJ (x.ld k) x.bk (y.lg 0) x.bkn)) (QJ (x.ld k) x.bk (y.lg 0) x.bkn).length))/\(y.kind≠9->v=.slice none 0 0)
theorem zbf.mono {g base N l k:Nat}{j i:Option Addr}{T n:Nat->Prop}{o:Off}{code name price:Int}{m f:World->Value->Prop}{L C A B D:Nat->Value}{w:World}{e:Ending}{w':World}(h:zbf g base N l k j i T o code name price m L C A B D w e w')(x:∀ b,T b->n b)(u:∀ v,m w' v->f w' v):zbf g base N l k j i n o code name price f L C A B D w e w':=by
 obtain⟨a,b,c,d,p,q,r,s,t⟩:=h;exact⟨a,b,c,d,p,u _ q,r,s,t.mono x⟩
theorem zhh {y:OpD}(h:Qz y):In y.pe 0 20/\y.lgn<=3:=by
 have a:=h.2.2.2.2.1;have b:=h.2.2.2.1;unfold qt at a;unfold qj at b
 by_cases c:zR y.kind
 ·rw[if_pos c] at a b
  have:In y.pe 1 20:=a.1;unfold In at this ⊢
  omega
 ·rw[if_neg c] at a b
  have:y.pe=0:=a.1;refine⟨by rw[this];unfold In;omega,?_⟩
  split at b <;> omega
theorem l7End_any (g base N R n l k r m:Nat)(j f d o:Option Addr)(p:Int)(y:OpD)(x:Off)(L C A B D E:Nat->Value)(w:World)(M:w.heap[g]?=some (.cells #[.slice j N n,.slice f N l,.slice d R k] 66 (0,0)))(K:zV w base (.slice j N n) (.slice f N l) (.slice d R k) N N R x L C A B D E)(q:x.bkn=R)(I:x.san=N)(Z:x.ldn=N)(s:base<=w.heap.size)(t:IntsAt w o y.lgn y.lg)(H:SliceOk o y.lgn r)(F:0<y.lgn->∀ a,o=some a->a.block<base)
  (T:zah x y m) (hT:zch x.san x.sa) (hR:R<=30) (hs:Off.Short x 1048576) (X:∀ i,i<R->zba x.san x.sa (x.bk i).lgn (x.bk i).lg) :
  Calls Tryz.prog 123 #[.pointer (some ⟨g,0,none⟩),int i64 p,.agg #[int i64 y.kind,.string y.own,int i64 y.name,.slice o y.lgn r,int i64 y.pe,int i64 y.len,int i64 y.hei,int i64 y.cl,.bool y.all,int i64 y.be,int i64 y.unt,int i64 y.now]] w fun e w'=>∃ x2 code name price,zeZ x p y m x2 code name price/\zbf g base N n l j f (fun b=>b=g∨(Value.slice d R k).ownBlock=some b) x2 code name price (zbC x y w.heap.size) L C A B D w e w':=by
 obtain⟨G,u⟩:=zhh T.1;have hN:N<=6:=by rw[← I];exact hT.1
 have hk:=T.1.1;have nil:∀ z v,y.kind≠9->v=Value.slice none 0 0->zbC x y w.heap.size z v:=fun z v h e=>⟨fun V=>absurd V h,fun _=>e⟩
 by_cases hnamed:In y.kind 4 8
 ·obtain⟨J,O,_⟩:=T.2.2 hnamed
  rw[q] at O;have n9:y.kind≠9:=by unfold In at hnamed;omega
  have fin:∀ {e w' price},price=zaI x (x.bk m) y->zbf g base N n l j f (fun b=>b=g∨(Value.slice d R k).ownBlock=some b) { x with bk:=QC x.bk m (qA (x.bk m) p y) } 0 y.name price (fun _ v=>v=.slice none 0 0) L C A B D w e w' ->
    ∃ x2 code name price,zeZ x p y m x2 code name price/\zbf g base N n l j f (fun b=>b=g∨(Value.slice d R k).ownBlock=some b) x2 code name price (zbC x y w.heap.size) L C A B D w e w':=fun hp h =>
   ⟨_,_,_,_,.inr (.inr (.inr (.inr ⟨hnamed,by rw[q];exact O,rfl,rfl,rfl,hp⟩))),h.mono (fun _ h=>h) (fun v h=>nil _ v n9 h)⟩
  have c:y.kind=4∨y.kind=5∨y.kind=6∨y.kind=7∨y.kind=8:=by unfold In at hnamed;omega
  rcases c with c|c|c|c|c
  ·refine(l7End_4 g base N R n l k r m j f d o p y x L C A B D E w M K q s c G u t H F J O (by omega)).mono (fun e w' h=>fin ?_ h)
   unfold zaI;rw[if_pos c]
  ·refine(l7End_5 g base N R n l k r m j f d o p y x L C A B D E w M K q s c G u t H F J O (by omega)).mono (fun e w' h=>fin ?_ h)
   unfold zaI;rw[if_neg (by omega),if_pos c]
  ·have W:=X m O
   have P:=(W.2.2 0 (by have:=W.1;omega)).1
   have S:=(hT.2 _ P).1;have U:=T.1.2.2.2.2.2.2;refine(l7End_6 g base N R n l k r m j f d o p y x L C A B D E w M K q s c G u t H F J O (by omega) (qo x.sa ((x.bk m).lg 0) x.san) (by have:=W.1;omega) (by rw[I]) (by rw[I] at P ⊢;exact P) ?_ (by omega)).mono (fun e w' h=>fin ?_ h)
   ·have h1:0<=(x.sa (qo x.sa ((x.bk m).lg 0) x.san)).dep:=S.2.2.2.2.1
    have h2:(x.sa (qo x.sa ((x.bk m).lg 0) x.san)).dep<(x.sa (qo x.sa ((x.bk m).lg 0) x.san)).arr:=S.2.2.2.2.2.1;have h3:(x.sa (qo x.sa ((x.bk m).lg 0) x.san)).arr<=10000:=S.2.2.2.2.2.2.1;unfold zak In at U
    omega
   ·unfold zaI;rw[if_neg (by omega),if_neg (by omega),if_pos c]
  ·refine(l7End_7 g base N R n l k r m j f d o p y x L C A B D E w M K q s c G u t H F J O (by omega)).mono (fun e w' h=>fin ?_ h)
   unfold zaI;rw[if_neg (by omega),if_neg (by omega),if_neg (by omega)]
  ·refine(l7End_8 g base N R n l k r m j f d o p y x L C A B D E w M K q s c G u t H F J O (by omega)).mono (fun e w' h=>fin ?_ h)
   unfold zaI;rw[if_neg (by omega),if_neg (by omega),if_neg (by omega)]
 ·have c:y.kind=1∨y.kind=2∨y.kind=3∨y.kind=9:=by unfold In at hnamed hk;omega
  rcases c with c|c|c|c
  ·refine(l7End_1 g base N R n l k r j f d o p y x L C A B D E w M K q s c G u t H F).mono (fun e w' h=>?_)
   exact⟨_,_,_,_,.inl ⟨c,rfl,rfl,rfl,rfl⟩,h.mono (fun _ h=>h.elim) (fun v h=>nil _ v (by omega) h)⟩
  ·by_cases h30:R=30
   ·refine(l7End_2f g base N R n l k r j f d o p y x L C A B D E w M K q s c G u t H F h30).mono (fun e w' h=>?_)
    exact⟨_,_,_,_,.inr (.inr (.inl ⟨.inl c,by omega,rfl,rfl,rfl,rfl⟩)),h.mono (fun _ h=>h.elim) (fun v h=>nil _ v (by omega) h)⟩
   ·refine(l7End_2 g base N R n l k r j f d o p y x L C A B D E w M K q s c G u t H F (by omega)).mono (fun e w' h=>?_)
    subst q;exact⟨_,_,_,_,.inr (.inr (.inr (.inl ⟨.inl c,by omega,rfl,rfl,rfl,rfl⟩))),h.mono (fun _ h=>h) (fun v h=>nil _ v (by omega) h)⟩
  ·by_cases h30:R=30
   ·refine(l7End_3f g base N R n l k r j f d o p y x L C A B D E w M K q s c G u t H F h30).mono (fun e w' h=>?_)
    exact⟨_,_,_,_,.inr (.inr (.inl ⟨.inr c,by omega,rfl,rfl,rfl,rfl⟩)),h.mono (fun _ h=>h.elim) (fun v h=>nil _ v (by omega) h)⟩
   ·refine(l7End_3 g base N R n l k r j f d o p y x L C A B D E w M K q s c G u t H F (by omega)).mono (fun e w' h=>?_)
    subst q;exact⟨_,_,_,_,.inr (.inr (.inr (.inl ⟨.inr c,by omega,rfl,rfl,rfl,rfl⟩))),h.mono (fun _ h=>h) (fun v h=>nil _ v (by omega) h)⟩
  ·have Y:0<y.lgn:=by
    have:=T.1.2.2.2.1;unfold qj at this;rw[if_neg (by unfold zR;omega),if_pos c] at this
    omega
   have Q:qo x.sa (y.lg 0) x.san<x.san:=by
    have h1:=zbK x.sa (y.lg 0) x.san
    rcases Nat.lt_or_eq_of_le h1 with h|h
    ·exact h
    ·exact absurd (.inr ⟨c,h⟩) T.2.1
   refine(l7End_9 g base N R n l k r j f d o p y x L C A B D E w M K q s c G u t H F (qo x.sa (y.lg 0) x.san) Y (by rw[I]) (by rw[I] at Q ⊢;exact Q) hs I Z (by omega)).mono (fun e w' h=>?_)
   exact⟨_,_,_,_,.inr (.inl ⟨c,rfl,rfl,rfl,rfl⟩),h.mono (fun _ h=>h.elim) (fun v h=>⟨fun _=>⟨_,rfl,Q,h⟩,fun V=>absurd c V⟩)⟩
end Go.Proofs.YtfallpinmhbemaaGreatDoor

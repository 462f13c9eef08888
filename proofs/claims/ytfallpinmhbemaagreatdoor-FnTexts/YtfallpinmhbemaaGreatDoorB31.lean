/-
  OWN TEXT: DrawV.
-/
import Derived.Deep.AppendLies
import Derived.Deep.RegionLawGrows
import Derived.Deep.DeepCutAuto
import Derived.Deep.CutBlock
import Derived.Test.YtfallpinmhbemaaGreatDoorB30
import Derived.Test.YtfallpinmhbemaaGreatDoorB05
namespace Go.Proofs.YtfallpinmhbemaaGreatDoor
open Go.RowKit
open Go.Value (int)
open Go.IntKind (i64)
set_option maxHeartbeats 64000000
set_option maxRecDepth 100000
theorem zil (id:Int):ShortS ⟨id,⟨#[79,115,108,111]⟩,⟨#[75,105,101,108]⟩,5,9,noP,noP,9⟩ 100:=⟨by show(4:Nat)<=100;omega,by show(4:Nat)<=100;omega,by show(0:Nat)<=100;omega,by show(0:Nat)<=100;omega⟩
theorem sailingC (d:Nat)(f:Option Addr)(n c a:Nat)(id:Int)(w:World)(ha:a<=100000000000000)(hn:n<=1048576)(h:CurX w d f n c a) :
  Calls Tryz.prog 58 #[.pointer (some ⟨d,0,none⟩),int i64 id] w fun e w'=>(∃ (x:Sail) (vl vc:Value),e=.returned (.agg #[int i64 x.id,.string x.fr,.string x.dst,int i64 x.dep,int i64 x.arr,vl,vc,int i64 x.most])/\Hid (w'.ownsRow w.heap.size 106 2 vl x.la.n (zG x.la)/\w'.ownsRow w.heap.size 110 2 vc x.ca.n (zG x.ca)/\ShortS x 100))/\CurX w' d f n c (a+10000000000000)/\zA w w' (fun b=>b=d):=by
 obtain⟨p,s,hp,g⟩:=h;exact(sailing_any d f n c p s id w (by omega) hn g).mono fun e w' ⟨h1,h2,h3⟩=>⟨h1,h2.more (by omega),h3⟩
theorem zff (f:Nat)(j:Option Addr)(n c a:Nat)(w:World)(ha:a<=1000000000)(hn:n<=1048576)(d:f<w.heap.size)(p:Hid (CodeLow w j n))(h:CurX w f j n c a) :
  Calls Tryz.prog 79 #[.pointer (some ⟨f,0,none⟩)] w fun e w'=>∃ v N S L C,e=.returned v/\(0<N/\N<=7)/\Hid (zgG w w' f j n c 90000000000000 v N S L C):=by
 have h0:zgG w w f j n c a (.slice none 0 0) 0 (fun _=>⟨0,⟨#[]⟩,⟨#[]⟩,0,0,noP,noP,0⟩) (fun _=>.slice none 0 0) (fun _=>.slice none 0 0):=⟨h,zA.refl _ _,Zk.nil _ _ _ _ _,fun i hi=>by omega⟩
 obtain⟨S0,L0,C0,H0⟩:∃ S L C,Hid (zgG w w f j n c a (.slice none 0 0) 0 S L C):=⟨_,_,_,h0⟩;clear h0 h;go_enter Tryz.func79,Tryz.ntmps79;go_wp2_with fail;refine(pickC f j n c a 5 _ (by omega) (by omega) (by omega) H0.out.cur).mono ?_
 rintro e w1 ⟨⟨n0,rfl,e8⟩,a8,b6⟩;have H1:Hid _:=H0.out.on d a8 b6;clear H0 a8 b6;have d5:IntKind.i64.wrap (1+(n0:Int))=((1+n0:Nat):Int):=by rw[IntKind.wrap_i64];omega
 go_wp2_with fail;refine(oneC f j n c (a+1) 24 _ (by omega) (by omega) (by omega) H1.out.cur).mono ?_
 rintro e w2 ⟨⟨b,rfl⟩,b0,c0⟩;have H2:Hid _:=H1.out.on d b0 c0;clear H1 b0 c0;go_upto_if 11 with fail;go_cut [5] (fun vn F=>∃ m:Nat,vn=int i64 m/\(0<m/\m<=7)/\Hid (zgG w F f j n c (a+3) (.slice none 0 0) 0 S0 L0 C0))
 case first =>
  cases b with
  | true =>
   go_wp2_with fail;refine(pickC f j n c (a+1+1) 2 _ (by omega) (by omega) (by omega) H2.out.cur).mono ?_
   rintro e w3 ⟨⟨n1,rfl,e9⟩,I,K⟩;have R:Hid _:=H2.out.on d I K;have f9:IntKind.i64.wrap (6+(n1:Int))=((6+n1:Nat):Int):=by rw[IntKind.wrap_i64];omega
   clear H2 I K;go_wp2;go_meet;exact⟨6+n1,rfl,by omega,R.out⟩
  | false =>
   go_wp2;go_meet;exact⟨1+n0,rfl,by omega,H2.out.more (by omega)⟩
 case rest =>
 obtain⟨m0,rfl,e7,R⟩:=hcut;clear H2 d5;obtain⟨A0,a6⟩:∃ A0,A0=a+3:=⟨_,rfl⟩;rw[← a6] at R;have e3:A0<=2000000000:=by omega
 clear a6;go_wp2_with fail;go_loopw [3,4,5] (fun vl vi vn wr=>∃ (k N:Nat) (c5:Int) (S:Nat->Sail) (L C:Nat->Value),vn=int i64 k/\vi=int i64 c5/\(0<N+k/\N+k<=7)/\Hid (zgG w wr f j n c (A0+N*10000000000100) vl N S L C)) (fun _ _ vn _=>(intOf vn).toNat)
 case atStart=>exact⟨m0,0,0,S0,L0,C0,rfl,rfl,by omega,R.out.more (by omega)⟩
 case round =>
  clear R;clear S0 L0 C0;obtain⟨k,N,c5,S,L,C,rfl,rfl,e6,HR⟩:=hrel;obtain⟨A,hA⟩:∃ A,A=A0+N*10000000000100:=⟨_,rfl⟩;rw[← hA] at HR;have c7:A<=80000000000000:=by omega
  obtain⟨lo,lc,rfl,_⟩:=zt HR.out.lie.row
  by_cases hk0:0<k
  ·have dk:decide ((0:Int)<(k:Int))=true:=by simp;omega
   go_wp2_with fail;refine(pickC f j n c A 3 _ (by omega) (by omega) (by omega) HR.out.cur).mono ?_
   rintro e w3 ⟨⟨r3,rfl,f8⟩,I,K⟩;have R:Hid _:=HR.out.on d I K;clear HR I K;go_wp2_with fail;refine(sailingC f j n c (A+1) _ _ (by omega) hn R.out.cur).mono ?_
   rintro e W ⟨⟨x,vl,vc,rfl,T⟩,b5,c1⟩;obtain⟨la,E,rfl,_⟩:=zt T.out.1;obtain⟨ca,D,rfl,_⟩:=zt T.out.2.1;have H4:Hid _:=R.out.on d b5 c1;have Q:=R.out.kept.size;have V:Hid (W.ownsRow w.heap.size 106 2 (.slice la x.la.n E) x.la.n (zG x.la)/\W.ownsRow w.heap.size 110 2 (.slice ca x.ca.n D) x.ca.n (zG x.ca)/\ShortS x 100):=⟨zE T.out.1 Q,zE T.out.2.1 Q,T.out.2.2⟩;clear R b5 c1 T Q;have a0:=heap_alloc_new W (.cells #[int i64 x.id,.string x.fr,.string x.dst,int i64 x.dep,int i64 x.arr,.slice la x.la.n E,.slice ca x.ca.n D,int i64 x.most] 37);have P:Below W.heap.size W (W.alloc (.cells #[int i64 x.id,.string x.fr,.string x.dst,int i64 x.dep,int i64 x.arr,.slice la x.la.n E,.slice ca x.ca.n D,int i64 x.most] 37)):=zr bZ _;go_upto_region 10 with fail;generalize W.alloc (.cells #[int i64 x.id,.string x.fr,.string x.dst,int i64 x.dep,int i64 x.arr,.slice la x.la.n E,.slice ca x.ca.n D,int i64 x.most] 37)=w5 at a0 P ⊢;have G:Hid (zaV w w5 W.heap.size f j n c (A+1+10000000000000) (.slice lo N lc) N S L C x (.slice la x.la.n E) (.slice ca x.ca.n D)):=⟨H4.out.below P,H4.out.kept.size,a0,fun g hg=>by have:=(H4.out.lie.row.lt g hg).2;omega,zm P V.out.1,zm P V.out.2.1,V.out.2.2⟩
   clear H4 V a0 P;generalize W.heap.size=xb at G ⊢;obtain⟨B,hB⟩:∃ B,B=A+1+10000000000000:=⟨_,rfl⟩;rw[← hB] at G;have e4:B<=92000000000000:=by omega
   have e5:B=A0+N*10000000000100+10000000000001:=by omega
   clear c7 hA hB;obtain⟨m0,m1,m2,m3,m4,m5,m6,m7⟩:=ce8 G.out.box;go_cut [34] (fun v F=>∃ b:Bool,v=.bool b/\Hid (zaV w F xb f j n c (B+1) (.slice lo N lc) N S L C x (.slice la x.la.n E) (.slice ca x.ca.n D)))
   case first =>
    go_wp2_with fail;refine(Zw _ _ _ _ _ _ _ _ _ _ _ _ x.la x.ca _ rfl rfl (by have:=G.out.sx.1;omega) (by have:=G.out.sx.2.1;omega) (by have:=G.out.sx.2.2.1;omega) (by have:=G.out.sx.2.2.2;omega) (pairs_of_own G.out.la) (pairs_of_own G.out.ca)).mono ?_
    rintro e w6 ⟨⟨g6,rfl,_⟩,a7⟩;have U:Hid _:=G.out.below a7;clear G a7 m0 m1 m2 m3 m4 m5 m6 m7
    cases g6 with
    | true =>
     go_wp2;go_meet;exact⟨_,rfl,U.out.more (by omega)⟩
    | false =>
     go_wp2_with fail;refine(oneC f j n c B 6 _ (by omega) (by omega) (by omega) U.out.l.cur).mono ?_
     rintro e w7 ⟨⟨b7,rfl⟩,J,O⟩;have Y:Hid _:=U.out.on d J O;clear U J O;go_wp2;go_meet;exact⟨_,rfl,Y.out⟩
   case rest =>
   obtain⟨b8,rfl,H⟩:=hcut;clear G m0 m1 m2 m3 m4 m5 m6 m7;go_upto_if 34 with fail;go_cut [] (fun F=>∃ y X wc,Hid (zaV w F xb f j n c (B+1) (.slice lo N lc) N S L C y X wc))
   case first =>
    cases b8 with
    | true =>
     obtain⟨m0,m1,m2,m3,m4,m5,m6,m7⟩:=ce8 H.out.box;obtain⟨f0,f1,f2,f3,f4,f5,f6,f7⟩:=fe8 H.out.box;go_wp2;go_meet;exact⟨⟨_,⟨#[79,115,108,111]⟩,⟨#[75,105,101,108]⟩,5,9,noP,noP,9⟩,_,_,H.out.whole d p.out rfl (show World.ownsRow _ _ _ 2 _ 0 [] from World.ownsRow_nil _ _ _ _) (show World.ownsRow _ _ _ 2 _ 0 [] from World.ownsRow_nil _ _ _ _) (zil _)⟩
    | false =>
     go_wp2;go_meet;exact⟨_,_,_,H.out⟩
   case rest =>
   obtain⟨y,X,d9,HY⟩:=hcut;clear H;go_upto_region 12 with fail;go_cut [43] (fun v F=>∃ b:Bool,v=.bool b/\(b=true->0<N)/\Hid (zaV w F xb f j n c (B+2) (.slice lo N lc) N S L C y X d9))
   case first =>
    by_cases hN0:N=0
    ·have dN:decide ((0:Int)<(N:Int))=false:=by simp;omega
     go_wp2;go_meet;exact⟨false,rfl,fun e=>(by cases e),HY.out.more (by omega)⟩
    ·have dN:decide ((0:Int)<(N:Int))=true:=by simp;omega
     go_wp2_with fail;refine(oneC f j n c (B+1) 2 _ (by omega) (by omega) (by omega) HY.out.l.cur).mono ?_
     rintro e w7 ⟨⟨b7,rfl⟩,J,O⟩;have Y:Hid _:=HY.out.on d J O;clear HY J O;go_wp2;go_meet;exact⟨_,rfl,fun _=>by omega,Y.out⟩
   case rest =>
   obtain⟨b9,rfl,Z,l⟩:=hcut;clear HY;go_upto_if 43 with fail;go_cut [] (fun F=>∃ y X wc,Hid (zaV w F xb f j n c (B+2) (.slice lo N lc) N S L C y X wc))
   case first =>
    cases b9 with
    | false =>
     go_wp2;go_meet;exact⟨_,_,_,l.out⟩
    | true =>
     obtain⟨M,rfl⟩:∃ M,N=M+1:=⟨N - 1,by have:=Z rfl;omega⟩
     obtain⟨g,rfl,_,_⟩:=qw l.out.l.lie.row (by omega)
     have g0:IntKind.i64.wrap ((((M+1:Nat)):Int) - 1)=(M:Int):=by rw[IntKind.wrap_i64];omega
     have e0:IntKind.i64.wrap (M:Int)=(M:Int):=by rw[IntKind.wrap_i64];omega
     have e1:(0:Int)<=(M:Int):=by omega
     have e2:(M:Int)<(M:Int)+1:=by omega
     have d0:=l.out.l.short M (by omega)
     clear Z;have m1:=za l.out.box 1 _ rfl;have f1:=zg l.out.box 1;have l2:=(zK l.out.l.lie.row (M*8+2) (by omega) rfl).trans (congrArg some (sailCell_2 S L C M))
     have q:Hid _:=l.out.fr d p.out (S M).dst d0.2.1;go_upto_region 14 with fail;generalize World.setCell _ _ _=v1 at q ⊢;obtain⟨y1,c4⟩:∃ z,z={ y with fr:=(S M).dst }:=⟨_,rfl⟩;rw[← c4] at q;clear l c4 m1 f1 l2;have m3:=za q.out.box 3 _ rfl;have f3:=zg q.out.box 3;have l4:=(zK q.out.l.lie.row (M*8+4) (by omega) rfl).trans (congrArg some (sailCell_4 S L C M))
     go_cut [] (fun F=>∃ y X wc,Hid (zaV w F xb f j n c (B+2) (.slice (some ⟨g,0,none⟩) (M+1) lc) (M+1) S L C y X wc))
     case first =>
      go_region
      all_goals
       go_wp2;go_meet
       first|exact⟨_,_,_,q.out.dep d p.out _⟩|exact⟨_,_,_,(q.out.dep d p.out _).below bZ.drew⟩
     case rest =>
     obtain⟨y2,g4,g1,s⟩:=hcut;clear q m3 f3 l4;have m4:=za s.out.box 4 _ rfl;have f4:=zg s.out.box 4;have l4:=(zK s.out.l.lie.row (M*8+4) (by omega) rfl).trans (congrArg some (sailCell_4 S L C M))
     go_upto_region 15 with fail;go_cut [] (fun F=>∃ y X wc,Hid (zaV w F xb f j n c (B+2) (.slice (some ⟨g,0,none⟩) (M+1) lc) (M+1) S L C y X wc))
     case first =>
      go_region
      all_goals
       go_wp2;go_meet
       first|exact⟨_,_,_,s.out.arr d p.out _⟩|exact⟨_,_,_,(s.out.arr d p.out _).below bZ.drew⟩
     case rest =>
     obtain⟨y3,g5,g2,t⟩:=hcut;clear s m4 f4 l4;have m1:=za t.out.box 1 _ rfl;have m2:=za t.out.box 2 _ rfl;have f1:=zg t.out.box 1;have f2:=zg t.out.box 2;have c6:Hid _:=t.out.to d p.out ⟨#[90,117,103]⟩ (by show(3:Nat)<=100;omega)
     go_wp2
     all_goals
      go_meet
      first|exact⟨_,_,_,c6.out⟩|exact⟨_,_,_,t.out⟩
   case rest =>
   obtain⟨o,g7,g3,r⟩:=hcut;clear l Z;obtain⟨a3,a5,rfl,_⟩:=zt r.out.la;obtain⟨a1,a2,rfl,_⟩:=zt r.out.ca;obtain⟨m0,m1,m2,m3,m4,m5,m6,m7⟩:=ce8 r.out.box;obtain⟨j0,ji,d6,d7,d8⟩:=info_parts Tryz.infoSailing;have T:Hid (zaV w (wc.alloc (.cells #[int i64 o.id,.string o.fr,.string o.dst,int i64 o.dep,int i64 o.arr,.slice a3 o.la.n a5,.slice a1 o.ca.n a2,int i64 o.most] 37)) xb f j n c (B+2) (.slice lo N lc) N S L C o (.slice a3 o.la.n a5) (.slice a1 o.ca.n a2)):=r.out.below (zr bZ _);have c3:=T.out.l.kept.size;clear r;go_wp2_with (first|(at_builtin;refine zz _ (by rfl) (.tmp 80) (.tmp 82) 62 (by rfl) w.heap.size 37 j0 (.agg #[int i64 0,.string ⟨#[]⟩,.string ⟨#[]⟩,int i64 0,int i64 0,.slice none 0 0,.slice none 0 0,int i64 0]) 8 112 Tryz.underlying62 ji d6 d7 d8 rfl (by decide) _ N _ (by rfl) T.out.l.lie.row (some ⟨wc.heap.size,0,none⟩) 1 1 [int i64 o.id,.string o.fr,.string o.dst,int i64 o.dep,int i64 o.arr,.slice a3 o.la.n a5,.slice a1 o.ca.n a2,int i64 o.most] (by rfl) (fun h=>by cases h) (by rfl) (fun ad h=>by cases h;exact World.news_of_block (heap_alloc_new wc _)) (by intro u hu;simp only[List.mem_cons,List.not_mem_nil,or_false] at hu;rcases hu with rfl|rfl|rfl|rfl|rfl|rfl|rfl|rfl <;> rfl) (by unfold maxLen;omega) (by omega) c3 ?_;intro v9 w9 c2 c8;obtain⟨a9,c9,rfl,_⟩:=zt c2))
   have HN:Hid _:=T.out.snoc d p.out c8 c2;go_roundw
   case rel=>exact⟨k - 1,N+1,_,_,_,_,by go_num,rfl,by omega,HN.out.more (by omega)⟩
   case measure=>simp[intOf];omega
  ·obtain rfl:k=0:=by omega
   go_wp2;exact bodyPost_ret (v:=.slice lo N lc) (by simp[results,Tryz.results79,go_sem]) rfl ⟨_,N,S,L,C,rfl,by omega,HR.out.more (by omega)⟩
end Go.Proofs.YtfallpinmhbemaaGreatDoor

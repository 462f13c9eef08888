/-
  OWN TEXT: PlainTt, SpecTx1, InI, AsksI, TextI.
-/
import Derived.Deep.CutBlock
import Derived.Test.YtfallpinmhbemaaGreatDoorRows
import Derived.Deep.RegionHeld3
import Derived.Deep.LoopGhost
import Derived.Deep.DeepCutAuto
import Derived.Test.YtfallpinmhbemaaGreatDoorB32
namespace Go.Proofs.YtfallpinmhbemaaGreatDoor
open Go.RowKit
open Go.Value (int)
open Go.IntKind (i64)
set_option maxHeartbeats 64000000
set_option maxRecDepth 100000
theorem zfg (u:Nat):qf (u:Int)=⟨(Lib.decDigits u).toArray⟩:=by
 unfold qf Lib.itoa;rw[if_neg (by omega)]
 rfl
theorem qh {n:Int}(a:0<=n)(h1:n<=9223372036854775807):(qf n).size<=100:=by
 obtain⟨u,rfl⟩:=Int.eq_ofNat_of_zero_le a;rw[zfg]
 show(Lib.decDigits u).toArray.size<=100
 rw[List.size_toArray];exact zhM u (by omega)
theorem Za {n:Int}(a:0<=n)(h1:n<=9223372036854775807)(w:World):Calls Tryz.prog 47 #[int i64 n] w fun e w'=>e=.returned (.string (qf n))/\Below w.heap.size w w':=by
 obtain⟨u,rfl⟩:=Int.eq_ofNat_of_zero_le a;rw[zfg];exact l1Num_nat u w (by omega)
theorem qk (a b:ByteArray)(ha:a.size<=1000000)(hb:b.size<=1000000)(W:World):(Op.stringOp .add a b).run Tryz.prog W=.ok (.string (a++b)) W:=run_string_add_sum W a b (by omega)
def spT:ByteArray:=⟨#[32]⟩
def coT:ByteArray:=⟨#[44]⟩
def opt (b:Bool)(p:ByteArray):List ByteArray:=if b then [p] else []
theorem ZH (sep p:ByteArray):qD sep [p]=p:=by
 unfold qD;rw[List.map_cons,List.map_nil,Lib.join_one,Lib.mk_data]
theorem zbT (sep:List UInt8):∀ (l:List (List UInt8))(p:List UInt8),l≠[]->Lib.join (l++[p]) sep=Lib.join l sep++(sep++p)
 | [],_,h=>absurd rfl h
 | x :: r,p,_=>by
  rw[List.cons_append,Lib.join_cons,Lib.join_cons];simp[Lib.joinTail,List.append_assoc]
theorem ZR (sep p:ByteArray){l:List ByteArray}(h:l≠[]):qD sep (l++[p])=qD sep l++(sep++p):=by
 unfold qD;rw[List.map_append,List.map_cons,List.map_nil,zbT _ _ _ (by simpa using h)]
 apply ByteArray.ext
 simp[ByteArray.data_append]
theorem zbU (sep:ByteArray)(hs:sep.size<=1)(l:List ByteArray)(hl:∀ p,p ∈ l->p.size<=1000):(qD sep l).size<=1001*l.length:=by
 have d:∀ m:List ByteArray,(∀ p,p ∈ m->p.size<=1000)->(qD sep m.reverse).size<=1001*m.length:=by
  intro m
  induction m with
  | nil=>intro _;show(qD sep []).size<=_;exact Nat.zero_le _
  | cons a r ih =>
   intro h;have ha:=h a (by simp)
   have hr:=ih (fun p b=>h p (by simp[b]))
   rw[List.reverse_cons]
   by_cases c:r.reverse=[]
   ·rw[c,List.nil_append,ZH,List.length_cons];omega
   ·rw[ZR sep a c,ByteArray.size_append,ByteArray.size_append,List.length_cons];omega
 have:=d l.reverse (fun p b=>hl p (by simpa using b))
 rw[List.reverse_reverse,List.length_reverse] at this;exact this
def zaS (p:Zf):ByteArray:=if p.len=0/\p.hei=0 then ⟨#[]⟩ else (⟨#[43]⟩:ByteArray)++(qf p.len++⟨#[47]⟩++qf p.hei)
def zhN (p:Zf):ByteArray:=if p.all=true then ⟨#[]⟩ else (⟨#[120]⟩:ByteArray)++qf p.be
def cabT (p:Zf):ByteArray:=if p.cl=0 then ⟨#[]⟩ else (⟨#[64]⟩:ByteArray)++qf p.cl
def qC (p:Zf):ByteArray:=if p.cl=0 then qf p.pe++zaS p else qf p.pe++zaS p++cabT p++zhN p
def ZB (n:Nat)(f:Nat->Int):ByteArray:=qD coT ((List.range n).map (fun i=>qf (f i)))
def zP (k:Nat):ByteArray:=match k with
 | 1=>⟨#[113,117,111,116,101]⟩
 | 2=>⟨#[104,111,108,100]⟩
 | 3=>⟨#[98,111,111,107]⟩
 | 4=>⟨#[99,111,110,102,105,114,109]⟩
 | 5=>⟨#[97,109,101,110,100]⟩
 | 6=>⟨#[99,97,110,99,101,108]⟩
 | 7=>⟨#[116,114,97,110,115,102,101,114]⟩
 | 8=>⟨#[101,120,112,105,114,101]⟩
 | 9=>⟨#[109,97,110,105,102,101,115,116]⟩
 | _=>⟨#[]⟩
theorem zet (k:Nat):(zP k).size<=10:=by
 unfold zP
 split <;> decide
def zcJ (x:OpD):List ByteArray:=[zP x.kind.toNat]
def zbV (x:OpD):List ByteArray:=zcJ x++opt (qM x.kind.toNat) (qf x.name)
def zcf (x:OpD):List ByteArray:=zbV x++opt (qr x.kind.toNat) x.own
def zbW (x:OpD):List ByteArray:=zcf x++opt (decide (0<qx x.kind.toNat)) (ZB x.lgn x.lg)
def zbX (x:OpD):List ByteArray:=zbW x++opt (qp x.kind.toNat) (qC x.p)
def zcg (x:OpD):List ByteArray:=zbX x++opt (qs x.kind.toNat) (qf x.unt)
def zcv (x:OpD):List ByteArray:=zcg x++opt (Qg x.kind.toNat) (qf x.now)
def opT (x:OpD):ByteArray:=qD spT (zcv x)
def qn (x:OpD):Prop:=Qz x/\∀ i,i<x.lgn->In (x.lg i) 0 99999
theorem opP0_ne (x:OpD):zcJ x≠[]:=by simp[zcJ]
theorem opP1_ne (x:OpD):zbV x≠[]:=by simp[zbV,zcJ]
theorem opP2_ne (x:OpD):zcf x≠[]:=by simp[zcf,zbV,zcJ]
theorem opP3_ne (x:OpD):zbW x≠[]:=by simp[zbW,zcf,zbV,zcJ]
theorem opP4_ne (x:OpD):zbX x≠[]:=by simp[zbX,zbW,zcf,zbV,zcJ]
theorem opP5_ne (x:OpD):zcg x≠[]:=by simp[zcg,zbX,zbW,zcf,zbV,zcJ]
theorem zas {sep p:ByteArray}{l:List ByteArray}(h:l≠[]){b:Bool}(a:b=true):qD sep (l++opt b p)=qD sep l++(sep++p):=by
 subst a;exact ZR sep p h
theorem zat {sep p:ByteArray}{l:List ByteArray}{b:Bool}(a:b=false):qD sep (l++opt b p)=qD sep l:=by
 subst a
 show qD sep (l++[])=_
 rw[List.append_nil]
theorem len_P0 (x:OpD):(zcJ x).length<=1:=by
 simp[zcJ]
theorem len_P1 (x:OpD):(zbV x).length<=2:=by
 have:=len_P0 x;unfold zbV opt;rw[List.length_append]
 split <;> simp <;> omega
theorem len_P2 (x:OpD):(zcf x).length<=3:=by
 have:=len_P1 x;unfold zcf opt;rw[List.length_append]
 split <;> simp <;> omega
theorem len_P3 (x:OpD):(zbW x).length<=4:=by
 have:=len_P2 x;unfold zbW opt;rw[List.length_append]
 split <;> simp <;> omega
theorem len_P4 (x:OpD):(zbX x).length<=5:=by
 have:=len_P3 x;unfold zbX opt;rw[List.length_append]
 split <;> simp <;> omega
theorem len_P5 (x:OpD):(zcg x).length<=6:=by
 have:=len_P4 x;unfold zcg opt;rw[List.length_append]
 split <;> simp <;> omega
theorem len_P6 (x:OpD):(zcv x).length<=7:=by
 have:=len_P5 x;unfold zcv opt;rw[List.length_append]
 split <;> simp <;> omega
theorem rng1 {x:OpD}{k:Nat}(h:qn x)(_:x.kind.toNat=k)(_:qM k=true):0<=x.name/\x.name<=30:=by
 have a:=h.1.2.2.1;unfold Zp at a
 split at a
 ·exact⟨by have:=a.1;omega,a.2⟩
 ·omega
theorem rng5 {x:OpD}{k:Nat}(h:qn x)(_:x.kind.toNat=k)(_:qs k=true):0<=x.unt/\x.unt<=10000:=by
 have a:=h.1.2.2.2.2.2.1
 rcases a with a|a
 ·omega
 ·exact a.2
theorem rng6 {x:OpD}{k:Nat}(h:qn x)(_:x.kind.toNat=k)(_:Qg k=true):0<=x.now/\x.now<=10000:=by
 have a:=h.1.2.2.2.2.2.2
 rcases a with a|a
 ·omega
 ·exact a.2
theorem zcw {x:OpD}{k:Nat}(h:qn x)(hk:x.kind.toNat=k):qp k=true↔zR x.kind:=by
 have:=h.1.1;unfold In at this;unfold qp zR;rw[decide_eq_true_eq]
 omega
theorem rng3 {x:OpD}{k:Nat}(h:qn x)(hk:x.kind.toNat=k)(f:decide (0<qx k)=true):0<x.lgn/\x.lgn<=3:=by
 have a:=h.1.2.2.2.1;have e:=h.1.1;have b:=of_decide_eq_true f;unfold In at e;unfold qj at a;unfold qx at b
 by_cases c:zR x.kind
 ·rw[if_pos c] at a;omega
 ·rw[if_neg c] at a
  unfold zR at c
  by_cases d:x.kind=9
  ·rw[if_pos d] at a;omega
  ·rw[if_neg (by omega),if_neg (by omega)] at b
   omega
theorem rng4 {x:OpD}{k:Nat}(h:qn x)(b:x.kind.toNat=k)(c:qp k=true):qI x.p:=by
 have a:=h.1.2.2.2.2.1;unfold qt at a
 rwa [if_pos ((zcw h b).1 c)] at a
theorem zin (n:Nat)(f:Nat->Int)(h:0<n):ZB (n+1) f=ZB n f++coT++qf (f n):=by
 unfold ZB;rw[List.range_succ,List.map_append,List.map_cons,List.map_nil,ZR _ _ (by
  intro e;have:=congrArg List.length e;simp at this
  omega),ByteArray.append_assoc]
theorem legsT_one (f:Nat->Int):ZB 1 f=qf (f 0):=ZH _ _
theorem zio (n:Nat)(f:Nat->Int)(hn:n<=3)(h:∀ i,i<n->In (f i) 0 99999):(ZB n f).size<=3003:=by
 have:=zbU coT (by show 1<=1;omega) ((List.range n).map (fun i=>qf (f i))) (fun p c=>by
  obtain⟨i,b,rfl⟩:=List.mem_map.1 c;have a:=h i (by simpa using b)
  unfold In at a;have:=qh (n:=f i) (by omega) (by omega)
  omega)
 rw[List.length_map,List.length_range] at this;unfold ZB
 omega
theorem zhn (m:Option Addr)(n cap:Nat)(f:Nat->Int)(w:World)(hn:n<=3)(t:IntsAt w m n f)(o:∀ i,i<n->In (f i) 0 99999) :
  Calls Tryz.prog 48 #[.slice m n cap] w fun e w'=>e=.returned (.string (ZB n f))/\Below w.heap.size w w':=by
 have l:=hI o;clear o;go_enter Tryz.func48,Tryz.ntmps48;go_wp2;go_loopw [3,4,5,8] (fun v _ _ i p=>∃ k:Nat,k<=n/\i=int i64 k/\v=.string (ZB k f)/\Below w.heap.size w p)
  (fun _ _ _ i _=>n - (intOf i).toNat)
 case atStart=>exact⟨0,Nat.zero_le _,rfl,rfl,bZ⟩
 case round =>
  obtain⟨k,hk,rfl,rfl,a⟩:=hrel
  by_cases hlt:k<n
  ·obtain⟨b,off,rfl,g⟩:=(t k (by omega))
   have s:p.cell? ⟨b,off+k,none⟩=some (int i64 (f k)):=(a.cell (World.block_lt_of_cell? w _ g)).trans g;have j:=l.out k hlt;unfold In at j;have sn:=qh (n:=f k) (by omega) (by omega)
   have sl:=zio k f (by omega) (fun i h=>l.out i (by omega))
   clear g
   by_cases h0:k=0
   ·have q:decide ((0:Int)<(k:Int))=false:=decide_eq_false (by omega)
    have r:decide (0<k)=false:=decide_eq_false (by omega)
    have dn:¬ 0<k:=by omega
    have d:Hid (ZB (k+1) f=ZB k f++qf (f k)):=by
     rw[h0]
     show ZB 1 f=_
     rw[legsT_one]
     show qf (f 0)=(⟨#[]⟩:ByteArray)++qf (f 0)
     exact ByteArray.empty_append.symm
    have u:=qk (ZB k f) (qf (f k)) (by omega) (by omega)
    clear h0;go_wp2_with fail;refine(Za (n:=f k) (by omega) (by omega) _).mono ?_
    rintro e x ⟨rfl,c⟩;go_wp2;go_roundw
    case rel=>exact⟨k+1,by omega,by go_num,by rw[d.out],zj a c⟩
    case measure=>simp[intOf];omega
   ·have q:decide ((0:Int)<(k:Int))=true:=decide_eq_true (by omega)
    have d:Hid (ZB (k+1) f=ZB k f++⟨#[44]⟩++qf (f k)):=zin k f (by omega)
    have r1:=qk (ZB k f) ⟨#[44]⟩ (by omega) (by show 1<=_;omega)
    have u:=qk (ZB k f++⟨#[44]⟩) (qf (f k)) (by rw[ByteArray.size_append];show _+1<=_;omega) (by omega)
    go_wp2_with fail;refine(Za (n:=f k) (by omega) (by omega) _).mono ?_
    rintro e x ⟨rfl,c⟩;go_wp2;go_roundw
    case rel=>exact⟨k+1,by omega,by go_num,by rw[d.out],zj a c⟩
    case measure=>simp[intOf];omega
  ·obtain rfl:n=k:=by omega
   go_wp2;go_ret;exact⟨rfl,a⟩
theorem zgm (p:Zf)(w:World)(E:qI p) :
  Calls Tryz.prog 49 #[.agg #[int i64 p.pe,int i64 p.len,int i64 p.hei,int i64 p.cl,.bool p.all,int i64 p.be]] w fun e w'=>e=.returned (.string (qC p))/\Below w.heap.size w w':=by
 obtain⟨pe,len,hei,cl,all,be⟩:=p;have HK:=hI E;unfold qI Q3 zbH In at E;dsimp only at E ⊢;have s1:=qh (n:=pe) (by omega) (by omega)
 have s2:=qh (n:=len) (by omega) (by omega)
 have s3:=qh (n:=hei) (by omega) (by omega)
 have s4:=qh (n:=cl) (by omega) (by omega)
 have s5:=qh (n:=be) (by omega) (by omega)
 have a:Hid ((0<=pe/\pe<=1000)/\(0<=len/\len<=2000)/\(0<=hei/\hei<=500)/\(0<=cl/\cl<=3)/\(0<=be/\be<=4)):=by
  show(0<=pe/\pe<=1000)/\(0<=len/\len<=2000)/\(0<=hei/\hei<=500)/\(0<=cl/\cl<=3)/\(0<=be/\be<=4)
  omega
 have H:Hid (len=0->hei=0):=by show len=0->hei=0;omega
 clear E;have D:=heap_alloc_new w (.cells #[int i64 pe,int i64 len,int i64 hei,int i64 cl,.bool all,int i64 be] 25);have l:Below w.heap.size w (w.alloc (.cells #[int i64 pe,int i64 len,int i64 hei,int i64 cl,.bool all,int i64 be] 25)):=zr bZ _;go_enter Tryz.func49,Tryz.ntmps49;go_upto_region 1 with fail;generalize w.alloc (.cells #[int i64 pe,int i64 len,int i64 hei,int i64 cl,.bool all,int i64 be] 25)=wA at D l ⊢;have x0:=za D 0 _ rfl;go_wp2_with fail;refine(Za (n:=pe) (by have:=a.out;omega) (by have:=a.out;omega) _).mono ?_
 rintro e F ⟨rfl,m⟩;have b:=zc D m;have y:=zj l m;clear D l m x0;have O:=za b 1 _ rfl;have B:(zaS ⟨pe,len,hei,cl,all,be⟩).size<=300:=by
  unfold zaS
  split
  ·exact Nat.zero_le _
  ·rw[ByteArray.size_append,ByteArray.size_append,ByteArray.size_append]
   show 1+((qf len).size+1+(qf hei).size)<=300
   omega
 obtain⟨q,N⟩:∃ q,q=decide ((0:Int)<len):=⟨_,rfl⟩;have K:Hid (q=true↔0<len):=by show q=true↔0<len;rw[N,decide_eq_true_eq]
 have C:=N.symm;clear N;go_upto_if 9 with fail;go_cut [3] (fun v Z=>v=.string (qf pe++zaS ⟨pe,len,hei,cl,all,be⟩)/\Hid (Below F.heap.size F Z))
 case first =>
  clear C O
  cases q with
  | false =>
   have u:len=0:=by
    have h1:=a.out
    by_cases c:0<len
    ·have:=K.out.2 c;cases this
    ·omega
   have t:qf pe++zaS ⟨pe,len,hei,cl,all,be⟩=qf pe:=by
    unfold zaS;rw[if_pos ⟨u,H.out u⟩];exact ByteArray.append_empty
   have G:=hI t.symm;clear u t;go_wp2;go_meet;exact⟨congrArg Value.string G.out,bZ⟩
  | true =>
   have u:0<len:=K.out.1 rfl;have t:zaS ⟨pe,len,hei,cl,all,be⟩=⟨#[43]⟩++qf len++⟨#[47]⟩++qf hei:=by
    unfold zaS;rw[if_neg (fun h=>by have h:len=0:=h.1;omega)]
    simp only[ByteArray.append_assoc]
   have G:Hid (qf pe++(⟨#[43]⟩++qf len++⟨#[47]⟩++qf hei)=qf pe++zaS ⟨pe,len,hei,cl,all,be⟩):=by show _=_;rw[t]
   have R:((⟨#[43]⟩:ByteArray)++qf len).size<=101:=by rw[ByteArray.size_append];show 1+_<=_;omega
   have S:((⟨#[43]⟩:ByteArray)++qf len++⟨#[47]⟩).size<=102:=by rw[ByteArray.size_append];show _+1<=_;omega
   have T:((⟨#[43]⟩:ByteArray)++qf len++⟨#[47]⟩++qf hei).size<=202:=by rw[ByteArray.size_append];omega
   have U:=qk ⟨#[43]⟩ (qf len) (by show 1<=_;omega) (by omega)
   have V:=qk (⟨#[43]⟩++qf len) ⟨#[47]⟩ (by omega) (by show 1<=_;omega)
   have X:=qk (⟨#[43]⟩++qf len++⟨#[47]⟩) (qf hei) (by omega) (by omega)
   have Y:=qk (qf pe) (⟨#[43]⟩++qf len++⟨#[47]⟩++qf hei) (by omega) (by omega)
   have P:=zZ b;have O:∀ g:qe F,g.val.cell? ⟨w.heap.size,1,none⟩=some (int i64 len):=fun g=>(g.bel.cell P).trans (za b 1 _ rfl)
   have y2:∀ g:qe F,g.val.cell? ⟨w.heap.size,2,none⟩=some (int i64 hei):=fun g=>(g.bel.cell P).trans (za b 2 _ rfl)
   clear u t B R S T;have I:Hid (∀ W:World,Calls Tryz.prog 47 #[int i64 len] W fun e w'=>e=.returned (.string (qf len))/\Below W.heap.size W w'):=fun W=>Za (by have:=a.out;omega) (by have:=a.out;omega) W
   have J:Hid (∀ W:World,Calls Tryz.prog 47 #[int i64 hei] W fun e w'=>e=.returned (.string (qf hei))/\Below W.heap.size W w'):=fun W=>Za (by have:=a.out;omega) (by have:=a.out;omega) W
   go_upto_region 3 with fail;refine zp (by kernel_rfl) (by kernel_rfl) ?_
   repeat(first|go_big_quiet_skip|(go_big_quiet_want;go_big_quiet_op;first|go_big_quiet_on|(apply Exists.intro;refine⟨fun g=>?_,?_⟩;(focus(go_at_call 47;first|(with_reducible refine zi (v:=.string (qf len)) (I.out _))|(with_reducible refine zi (v:=.string (qf hei)) (J.out _))));go_big_quiet_on)))
   refine wpQuiet_nil ?_;rintro _ ⟨g,rfl⟩;go_wp2;go_meet;exact⟨congrArg Value.string G.out,g.bel⟩
 case rest =>
 obtain⟨rfl,L⟩:=hcut;have j:=zc b L.out;have k:=zj y L.out;clear b y L C O;obtain⟨f,r⟩:∃ z,z=zaS ⟨pe,len,hei,cl,all,be⟩:=⟨_,rfl⟩;have i:=hI r;rw[← r] at B ⊢;clear r K q;have y3:=za j 3 _ rfl
 by_cases hc:0<cl
 case neg =>
  have Q:decide ((0:Int)<cl)=false:=decide_eq_false hc;have s:Hid (qf pe++f=qC ⟨pe,len,hei,cl,all,be⟩):=by
   show qf pe++f=qC _
   unfold qC;rw[if_pos (by have:=a.out;show cl=0;omega),i.out]
  clear hc;go_wp2;go_ret;exact⟨congrArg (fun z=>Ending.returned (Value.string z)) s.out,k⟩
 case pos =>
  have Q:decide ((0:Int)<cl)=true:=decide_eq_true hc;have d:¬ cl=0:=by omega
  have t1:(qf pe++f).size<=500:=by rw[ByteArray.size_append];omega
  have t2:((⟨#[64]⟩:ByteArray)++qf cl).size<=101:=by rw[ByteArray.size_append];show 1+_<=_;omega
  have U:=qk ⟨#[64]⟩ (qf cl) (by show 1<=_;omega) (by omega)
  have V:=qk (qf pe++f) (⟨#[64]⟩++qf cl) (by omega) (by omega)
  go_wp2_with fail;refine(Za (n:=cl) (by have:=a.out;omega) (by have:=a.out;omega) _).mono ?_
  rintro e w6 ⟨rfl,o⟩;have x:=zc j o;have A:=zj k o;clear j k o y3;have y4:=za x 4 _ rfl;have y5:=za x 5 _ rfl
  cases all with
  | true =>
   have s:Hid (qf pe++f++(⟨#[64]⟩++qf cl)=qC ⟨pe,len,hei,cl,true,be⟩):=by
    show qf pe++f++(⟨#[64]⟩++qf cl)=qC _
    unfold qC cabT zhN;rw[if_neg d,if_neg d,if_pos rfl,i.out];exact ByteArray.append_empty.symm
   clear hc d;go_wp2;go_ret;exact⟨congrArg (fun z=>Ending.returned (Value.string z)) s.out,A⟩
  | false =>
   have s:Hid (qf pe++f++(⟨#[64]⟩++qf cl)++(⟨#[120]⟩++qf be)=qC ⟨pe,len,hei,cl,false,be⟩):=by
    show qf pe++f++(⟨#[64]⟩++qf cl)++(⟨#[120]⟩++qf be)=qC _
    unfold qC cabT zhN;rw[if_neg d,if_neg d,if_neg (by simp),i.out]
   clear hc d;have X:=qk ⟨#[120]⟩ (qf be) (by show 1<=_;omega) (by omega)
   have Y:=qk (qf pe++f++(⟨#[64]⟩++qf cl)) (⟨#[120]⟩++qf be) (by rw[ByteArray.size_append];omega) (by rw[ByteArray.size_append];show 1+_<=_;omega)
   go_wp2_with fail;refine(Za (n:=be) (by have:=a.out;omega) (by have:=a.out;omega) _).mono ?_
   rintro e w7 ⟨rfl,M⟩;go_wp2;go_ret;exact⟨congrArg (fun z=>Ending.returned (Value.string z)) s.out,zj A M⟩
theorem zeu (x lo a:Int)(w:World)(h:In x lo a) :
  Calls Tryz.prog 31 #[int i64 x,int i64 lo,int i64 a] w fun e w'=>e=.returned (.bool true)/\w'=w:=by
 have e1:decide (lo<=x)=true:=by simpa using h.1
 have e2:decide (x<=a)=true:=by simpa using h.2
 clear h;go_enter Tryz.func31,Tryz.ntmps31;go_wp2;go_ret;exact⟨rfl,rfl⟩
theorem zgn (x lo a:Int)(w:World)(h:¬ In x lo a) :
  Calls Tryz.prog 31 #[int i64 x,int i64 lo,int i64 a] w fun e w'=>e=.returned (.bool false)/\w'=w:=by
 by_cases h1:lo<=x
 ·have b:decide (lo<=x)=true:=by simpa using h1
  have e2:decide (x<=a)=false:=by simp;exact Int.not_le.1 (fun c=>h ⟨h1,c⟩)
  clear h h1;go_enter Tryz.func31,Tryz.ntmps31;go_wp2;go_ret;exact⟨rfl,rfl⟩
 ·have b:decide (lo<=x)=false:=by simpa using h1
  clear h h1;go_enter Tryz.func31,Tryz.ntmps31;go_wp2;go_ret;exact⟨rfl,rfl⟩
theorem ql (x lo a:Int)(w:World) :
  Calls Tryz.prog 31 #[int i64 x,int i64 lo,int i64 a] w fun e w'=>e=.returned (.bool (decide (In x lo a)))/\w'=w:=by
 by_cases h:In x lo a
 ·rw[decide_eq_true h];exact zeu x lo a w h
 ·rw[decide_eq_false h];exact zgn x lo a w h
theorem zds (pe len hei cl:Int)(all:Bool)(be:Int)(w:World) :
  Calls Tryz.prog 82 #[.agg #[int i64 pe,int i64 len,int i64 hei,int i64 cl,.bool all,int i64 be]] w fun e w'=>e=.returned (.bool (decide (¬ (len=0/\hei=0))))/\Below w.heap.size w w':=by
 obtain⟨c,d⟩:∃ c,c=decide (¬ (len=0/\hei=0)):=⟨_,rfl⟩;rw[← d];have a:=hI d;clear d
 by_cases h1:len=0
 ·subst h1
  by_cases h2:hei=0
  ·subst h2
   go_enter Tryz.func82,Tryz.ntmps82;go_wp2;go_ret;exact⟨by rw[a.out];rfl,zr bZ _⟩
  ·have e2:(hei != 0)=true:=by simpa using h2
   have b:Hid (c=true):=by rw[a.out];exact decide_eq_true (fun h=>h2 h.2)
   clear h2;go_enter Tryz.func82,Tryz.ntmps82;go_wp2;go_ret;exact⟨by rw[b.out];rfl,zr bZ _⟩
 ·have e1:(len != 0)=true:=by simpa using h1
  have b:Hid (c=true):=by rw[a.out];exact decide_eq_true (fun h=>h1 h.1)
  clear h1;go_enter Tryz.func82,Tryz.ntmps82;go_wp2;go_ret;exact⟨by rw[b.out];rfl,zr bZ _⟩
theorem zaK (pe len hei cl:Int)(all:Bool)(be:Int)(w:World) :
  Calls Tryz.prog 84 #[.agg #[int i64 pe,int i64 len,int i64 hei,int i64 cl,.bool all,int i64 be]] w fun e w'=>e=.returned (.bool (decide (¬ (cl=0/\all=false/\be=0))))/\Below w.heap.size w w':=by
 obtain⟨c,d⟩:∃ c,c=decide (¬ (cl=0/\all=false/\be=0)):=⟨_,rfl⟩;rw[← d];have b:=hI d;clear d
 by_cases h1:cl=0
 ·subst h1
  cases all with
  | true =>
   have a:Hid (c=true):=by rw[b.out];exact decide_eq_true (fun h=>by cases h.2.1)
   go_enter Tryz.func84,Tryz.ntmps84;go_wp2;go_ret;exact⟨by rw[a.out];rfl,zr bZ _⟩
  | false =>
   by_cases h2:be=0
   ·subst h2
    go_enter Tryz.func84,Tryz.ntmps84;go_wp2;go_ret;exact⟨by rw[b.out];rfl,zr bZ _⟩
   ·have e2:(be != 0)=true:=by simpa using h2
    have a:Hid (c=true):=by rw[b.out];exact decide_eq_true (fun h=>h2 h.2.2)
    clear h2;go_enter Tryz.func84,Tryz.ntmps84;go_wp2;go_ret;exact⟨by rw[a.out];rfl,zr bZ _⟩
 ·have e1:(cl != 0)=true:=by simpa using h1
  have a:Hid (c=true):=by rw[b.out];exact decide_eq_true (fun h=>h1 h.1)
  clear h1;go_enter Tryz.func84,Tryz.ntmps84;go_wp2;go_ret;exact⟨by rw[a.out];rfl,zr bZ _⟩
theorem zdQ (l:Option Addr)(n c:Nat)(f:Nat->Int)(w:World)(hn:n<=1000000000)(q:IntsAt w l n f) :
  Calls Tryz.prog 15 #[.slice l n c] w fun e w'=>SaysIf (∀ i,i<n->In (f i) 0 99999) e/\Below w.heap.size w w':=by
 go_enter Tryz.func15,Tryz.ntmps15;go_wp2;go_loopw [4,7] (fun _ h m=>∃ k:Nat,k<=n/\h=int i64 k/\Hid (∀ i,i<k->In (f i) 0 99999)/\Below w.heap.size w m) (fun _ h _=>n - (intOf h).toNat)
 case atStart=>exact⟨0,Nat.zero_le _,rfl,fun i p=>by omega,bZ⟩
 case round =>
  obtain⟨k,hk,rfl,j,a⟩:=hrel
  by_cases hlt:k<n
  ·obtain⟨b,off,rfl,g⟩:=q k hlt
   have o:m.cell? ⟨b,off+k,none⟩=some (int i64 (f k)):=(a.cell (World.block_lt_of_cell? w _ g)).trans g;clear g
   by_cases hin:In (f k) 0 99999
   ·go_wp2_with fail
    refine(zeu (f k) 0 99999 _ hin).mono ?_;rintro e r ⟨rfl,d⟩;go_wp2;go_roundw
    case rel=>exact⟨k+1,by omega,by go_num,fun i p=>by
      by_cases e:i=k
      ·rw[e];exact hin
      ·exact j.out i (by omega),d ▸ a⟩
    case measure=>simp[intOf];omega
   ·go_wp2_with fail
    refine(zgn (f k) 0 99999 _ hin).mono ?_;rintro e r ⟨rfl,d⟩;go_wp2;go_ret;exact⟨⟨false,rfl,by simp;exact⟨k,hlt,hin⟩⟩,d ▸ a⟩
  ·obtain rfl:n=k:=by omega
   go_wp2;go_ret;exact⟨⟨true,rfl,by simp;exact j.out⟩,a⟩
theorem zbg (a b:Int)(w:World)(h:In a 0 1000000)(i:In b 0 1000000)(g:Ze w) :
  Calls Tryz.prog 89 #[int i64 a,int i64 b] w fun e w'=>e=.returned (.string (qf a++⟨#[47]⟩++qf b))/\Below w.heap.size w w':=by
 unfold In at h i;have s1:=qh (n:=a) (by omega) (by omega)
 have s2:=qh (n:=b) (by omega) (by omega)
 have r1:=qk (qf a) ⟨#[47]⟩ (by omega) (by show 1<=_;omega)
 have r2:=qk (qf a++⟨#[47]⟩) (qf b) (by rw[ByteArray.size_append];show _+1<=_;omega) (by omega)
 have f:=hI g;clear g;go_enter Tryz.func89,Tryz.ntmps89;go_wp2_with fail;refine(Z3 a (by omega) (by omega) _ f.out).mono ?_
 rintro e w2 ⟨rfl,c⟩;go_wp2_with fail;refine(Z3 b (by omega) (by omega) _ (f.out.below c)).mono ?_
 rintro e w3 ⟨rfl,d⟩;go_wp2;go_ret;exact⟨rfl,zj c d⟩
theorem zfh (p:Zf)(w:World)(M:qI p)(X:Ze w) :
  Calls Tryz.prog 41 #[.agg #[int i64 p.pe,int i64 p.len,int i64 p.hei,int i64 p.cl,.bool p.all,int i64 p.be]] w fun e w'=>e=.returned (.string (qC p))/\Below w.heap.size w w':=by
 obtain⟨pe,len,hei,cl,all,be⟩:=p;have Z:=hI M;have K:=hI X;unfold qI Q3 zbH In at M;dsimp only at M ⊢;have s1:=qh (n:=pe) (by omega) (by omega)
 have s2:=qh (n:=len) (by omega) (by omega)
 have s3:=qh (n:=hei) (by omega) (by omega)
 have s4:=qh (n:=cl) (by omega) (by omega)
 have s5:=qh (n:=be) (by omega) (by omega)
 have b1:(0<=pe/\pe<=1000)/\(0<=len/\len<=2000)/\(0<=hei/\hei<=500)/\(0<=cl/\cl<=3)/\(0<=be/\be<=4):=by omega
 have a:=hI b1;clear M X b1;have L:=heap_alloc_new w (.cells #[int i64 pe,int i64 len,int i64 hei,int i64 cl,.bool all,int i64 be] 25);have g:Below w.heap.size w (w.alloc (.cells #[int i64 pe,int i64 len,int i64 hei,int i64 cl,.bool all,int i64 be] 25)):=zr bZ _;go_enter Tryz.func41,Tryz.ntmps41;go_upto_region 1 with fail;generalize w.alloc (.cells #[int i64 pe,int i64 len,int i64 hei,int i64 cl,.bool all,int i64 be] 25)=wA at L g ⊢;have x0:=za L 0 _ rfl;go_wp2_with fail;refine(Z3 pe (by have:=a.out;omega) (by have:=a.out;omega) _ (K.out.below g)).mono ?_
 rintro e w2 ⟨rfl,t⟩;have l:=zc L t;have H:=zj g t;clear L g t x0;obtain⟨V,N,O,J,P,Q⟩:=ce6 l;go_wp2_with fail;obtain⟨q,B⟩:∃ q,q=decide (¬ (len=0/\hei=0)):=⟨_,rfl⟩;have k:=zds pe len hei cl all be w2;rw[← B] at k;have C:=hI B;clear B;refine k.mono ?_;clear k;rintro e Y ⟨rfl,u⟩;have d:=zc l u;have r:=zj H u;clear l H u V N O J P Q;have i:(zaS ⟨pe,len,hei,cl,all,be⟩).size<=300:=by
  unfold zaS
  split
  ·exact Nat.zero_le _
  ·rw[ByteArray.size_append,ByteArray.size_append,ByteArray.size_append]
   show 1+((qf len).size+1+(qf hei).size)<=300
   omega
 go_upto_if 8 with fail;go_cut [3] (fun v wx=>v=.string (qf pe++zaS ⟨pe,len,hei,cl,all,be⟩)/\Hid (Below Y.heap.size Y wx))
 case first =>
  cases q with
  | false =>
   have b:len=0/\hei=0:=Classical.byContradiction (fun h=>by have:=C.out;rw[decide_eq_true h] at this;cases this)
   have D:qf pe++zaS ⟨pe,len,hei,cl,all,be⟩=qf pe:=by
    unfold zaS;rw[if_pos b];exact ByteArray.append_empty
   have R:=hI D.symm;clear b D;go_wp2;go_meet;exact⟨congrArg Value.string R.out,bZ⟩
  | true =>
   have b:¬ (len=0/\hei=0):=of_decide_eq_true C.out.symm;have D:zaS ⟨pe,len,hei,cl,all,be⟩=⟨#[43]⟩++(qf len++⟨#[47]⟩++qf hei):=by unfold zaS;rw[if_neg b]
   rw[D] at i;rw[ByteArray.size_append] at i;have r1:=qk ⟨#[43]⟩ (qf len++⟨#[47]⟩++qf hei) (by show 1<=_;omega) (by omega)
   have r2:=qk (qf pe) (⟨#[43]⟩++(qf len++⟨#[47]⟩++qf hei)) (by omega) (by rw[ByteArray.size_append];omega)
   have N:=za d 1 _ rfl;have O:=za d 2 _ rfl;have R:=hI D.symm;clear b D i;go_wp2_with fail;refine(zbg len hei _ ⟨by have:=a.out;omega,by have:=a.out;omega⟩ ⟨by have:=a.out;omega,by have:=a.out;omega⟩ (K.out.below r)).mono ?_
   rintro e w4 ⟨rfl,T⟩;go_wp2;go_meet;exact⟨congrArg (fun z=>Value.string (qf pe++z)) R.out,T⟩
 case rest =>
 obtain⟨rfl,S⟩:=hcut;have m:=zc d S.out;have I:=zj r S.out;clear d r S;obtain⟨c,A⟩:∃ z,z=zaS ⟨pe,len,hei,cl,all,be⟩:=⟨_,rfl⟩;have j:=hI A;rw[← A] at i ⊢;clear A C q;obtain⟨V,N,O,J,P,Q⟩:=ce6 m;go_wp2_with fail;obtain⟨q,B⟩:∃ q,q=decide (¬ (cl=0/\all=false/\be=0)):=⟨_,rfl⟩;have k:=zaK pe len hei cl all be wc;rw[← B] at k;have C:=hI B;clear B;refine k.mono ?_;clear k;rintro e w5 ⟨rfl,x⟩;have o:=zc m x;have f:=zj I x;clear m I x V N O J P Q
 cases q with
 | false =>
  have b:cl=0/\all=false/\be=0:=Classical.byContradiction (fun h=>by have:=C.out;rw[decide_eq_true h] at this;cases this)
  have E:Hid (qf pe++c=qC ⟨pe,len,hei,cl,all,be⟩):=by
   show qf pe++c=qC _
   unfold qC;rw[if_pos b.1,j.out]
  clear b;go_wp2;go_ret;exact⟨congrArg (fun z=>Ending.returned (Value.string z)) E.out,f⟩
 | true =>
  have b:cl≠0:=fun h0=>by
   have h1:=of_decide_eq_true C.out.symm;have F:=Z.out.2.2
   rcases F with F|F
   ·exact h1 F
   ·have W:=F.1.1
    have W:1<=cl:=W
    omega
  have J:=za o 3 _ rfl;have t1:(qf pe++c).size<=500:=by rw[ByteArray.size_append];omega
  have t2:((⟨#[64]⟩:ByteArray)++qf cl).size<=101:=by rw[ByteArray.size_append];show 1+_<=_;omega
  have r1:=qk ⟨#[64]⟩ (qf cl) (by show 1<=_;omega) (by omega)
  have r2:=qk (qf pe++c) (⟨#[64]⟩++qf cl) (by omega) (by omega)
  go_wp2_with fail;refine(Z3 cl (by have:=a.out;omega) (by have:=a.out;omega) _ (K.out.below f)).mono ?_
  rintro e w6 ⟨rfl,y⟩;have G:=zc o y;have s:=zj f y;clear o f y J;have P:=za G 4 _ rfl;have Q:=za G 5 _ rfl
  cases all with
  | true =>
   have E:Hid (qf pe++c++(⟨#[64]⟩++qf cl)=qC ⟨pe,len,hei,cl,true,be⟩):=by
    show qf pe++c++(⟨#[64]⟩++qf cl)=qC _
    unfold qC cabT zhN;rw[if_neg b,if_neg b,if_pos rfl,j.out];exact ByteArray.append_empty.symm
   clear b;go_wp2;go_ret;exact⟨congrArg (fun z=>Ending.returned (Value.string z)) E.out,s⟩
  | false =>
   have E:Hid (qf pe++c++(⟨#[64]⟩++qf cl)++(⟨#[120]⟩++qf be)=qC ⟨pe,len,hei,cl,false,be⟩):=by
    show qf pe++c++(⟨#[64]⟩++qf cl)++(⟨#[120]⟩++qf be)=qC _
    unfold qC cabT zhN;rw[if_neg b,if_neg b,if_neg (by simp),j.out]
   clear b;have r3:=qk ⟨#[120]⟩ (qf be) (by show 1<=_;omega) (by omega)
   have r4:=qk (qf pe++c++(⟨#[64]⟩++qf cl)) (⟨#[120]⟩++qf be) (by rw[ByteArray.size_append];omega) (by rw[ByteArray.size_append];show 1+_<=_;omega)
   go_wp2_with fail;refine(Z3 be (by have:=a.out;omega) (by have:=a.out;omega) _ (K.out.below s)).mono ?_
   rintro e w7 ⟨rfl,U⟩;go_wp2;go_ret;exact⟨congrArg (fun z=>Ending.returned (Value.string z)) E.out,zj s U⟩
end Go.Proofs.YtfallpinmhbemaaGreatDoor

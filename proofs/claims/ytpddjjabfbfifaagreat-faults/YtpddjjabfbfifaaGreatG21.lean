import Derived.Deep.RegionHeld3
import Derived.Test.YtpddjjabfbfifaaGreatG05
import Derived.Test.YtpddjjabfbfifaaGreatG20
namespace Go.Proofs.YtpddjjabfbfifaaGreat
open Go.RowKit
set_option maxHeartbeats 40000000
theorem Gu:(Tryz.prog.info? 4).map (fun i=>(i.zero,i.size,i.bytes))=some (some (.bool false),1,1):=by kernel_rfl
theorem t8(n:Nat):madeCells (Value.bool false).cells (n*1)=((List.replicate n false).map Value.bool).toArray:=by
 rw[Nat.mul_one]
 apply Array.ext
 ·rw[size_madeCells];simp
 ·intro i h1 h2
  have e:(Value.bool false).cells=#[.bool false]:=rfl;simp[madeCells,e,Nat.mod_one]
def nr(fs:Fs)(k:Nat):List Tk:=(dy fs fs.length k (List.replicate fs.length false) []).1
def ic:Tk:=⟨⟨#[]⟩,0,⟨#[]⟩,0,0⟩
def da(fs:Fs)(k:Nat):List Tk×Tk:=if dJ (nr fs k)=true then((nr fs k).dropLast,(nr fs k).getLast?.getD ic) else(nr fs k,ic)
theorem lx(n:Nat):aO (List.replicate n false)=n:=by
 unfold aO;rw[List.countP_replicate];simp
theorem jN.drop{w:World}{ao:Option Addr}{cap:Nat}{L:List Tk}(h:jN w ao cap L):jN w ao cap L.dropLast:=by
 refine⟨by rw[List.length_dropLast];have:=h.1;omega,fun k t ht=>h.2 k t ?_⟩;rw[List.getElem?_dropLast]at ht
 split at ht
 ·exact ht
 ·cases ht
theorem jN.keptS{w w':World}{ao:Option Addr}{cap:Nat}{L:List Tk}{S:List Nat}(h:jN w ao cap L)(k:ab S w w')(hS:∀g,ao=some ⟨g,0,none⟩->g∉S):jN w' ao cap L:=by
 refine⟨h.1,fun j t ht=>?_⟩;obtain⟨g,e,hg,c0,c1,c2,c3,c4⟩:=h.2 j t ht;have q:∀o,w'.cell? ⟨g,o,none⟩=w.cell? ⟨g,o,none⟩:=fun o=>World.cell?_of_block (k.block g hg (hS g e))
 exact⟨g,e,Nat.lt_of_lt_of_le hg k.size,by rw[q];exact c0,by rw[q];exact c1,by rw[q];exact c2,by rw[q];exact c3,by rw[q];exact c4⟩
theorem pU{w:World}{B:Nat}{a0 a1 a2 a3:Value}(h:w.heap[B]?=some (.cells #[a0,a1,a2,a3] 87 (0,0)))(v0 v1 v2 v3:Value) :
  (w.setCell ⟨B,0,none⟩ v0).cell? ⟨B,0,none⟩=some v0/\((w.setCell ⟨B,0,none⟩ v0).setCell ⟨B,1,none⟩ v1).cell? ⟨B,1,none⟩=some v1/\(((w.setCell ⟨B,0,none⟩ v0).setCell ⟨B,1,none⟩ v1).setCell ⟨B,2,none⟩ v2).cell? ⟨B,2,none⟩=some v2/\((((w.setCell ⟨B,0,none⟩ v0).setCell ⟨B,1,none⟩ v1).setCell ⟨B,2,none⟩ v2).setCell ⟨B,3,none⟩ v3).cell? ⟨B,3,none⟩=some v3:=by
 have b0:=ah h 0 v0;have b1:=ah b0 1 v1;have b2:=ah b1 2 v2;have b3:=ah b2 3 v3;exact⟨by rw[aa b0];rfl,by rw[aa b1];rfl,by rw[aa b2];rfl,by rw[aa b3];rfl⟩
set_option maxRecDepth 100000 in
theorem DD(fs:Fs)(gf cap k:Nat)(w:World)(hfl:fs.length<=4)(hfd:∀k,(aj fs k).size<=1024)(hk:k<fs.length)(hO:lO w (some ⟨gf,0,none⟩) cap fs)(hg:gf<w.heap.size) :
  Calls Tryz.prog 54 #[.slice (some ⟨gf,0,none⟩) fs.length cap,.int .i64 k] w fun e w'=>∃ao c,e=.returned (.tuple #[.slice ao (da fs k).1.length c,.agg #[.int .i64 (da fs k).2.rule,.string (da fs k).2.file,.int .i64 (da fs k).2.line,.int .i64 (da fs k).2.col]])/\jN w' ao c (da fs k).1/\ab [] w w':=by
 obtain⟨i1,hi1,hy0,hy1,hy2⟩:=info_parts Gu;have m2:=fun w=>dn (P:=Tryz.prog) w 134 4 i1 _ Tryz.underlying134 hi1 hy0 fs.length 1 hy1 (by rw[hy2];omega) (by omega)
 obtain⟨mc,Hmc⟩:∃mc,Hid (madeCells (Value.bool false).cells (fs.length*1)=mc):=⟨_,rfl⟩
 have HMC:Hid (mc=((List.replicate fs.length false).map Value.bool).toArray):=by show _=_;rw[<-Hmc.out,t8]
 rw[Hmc.out]at m2;have hcap:=hO.1;obtain⟨W,HW⟩:∃W,Hid ((w.alloc (.cells #[.int .i64 0,.string ⟨#[]⟩,.int .i64 0,.int .i64 0] 87)).alloc (.cells mc 4)=W):=⟨_,rfl⟩
 have KW:ab [] w W:=by rw[<-HW.out];exact((ab.refl [] _).alloc _).alloc _
 have SW:iu W (w.heap.size+1) (List.replicate fs.length false):=by
  rw[<-HW.out,HMC.out];have:=heap_alloc_new (w.alloc (.cells #[.int .i64 0,.string ⟨#[]⟩,.int .i64 0,.int .i64 0] 87)) (.cells ((List.replicate fs.length false).map Value.bool).toArray 4);simpa [iu] using this
 have BF:W.heap[w.heap.size]?=some (.cells #[.int .i64 0,.string ⟨#[]⟩,.int .i64 0,.int .i64 0] 87 (0,0)):=by
  rw[<-HW.out];exact((ab.refl [] _).alloc _).get (heap_alloc_new _ _) (by simp)
 have hI:oV W gf cap fs (w.heap.size+1) (List.replicate fs.length false) ⟨none,0⟩ []:=⟨World.ownsRow_nil _ _ _ _,SW,hO.kept KW (by simp),(by intro e;cases e),(by intro e;cases e),by omega,Nat.lt_of_lt_of_le hg KW.size⟩;have HRD:=(show Hid _ from ED fs gf cap hfl hfd fs.length k (List.replicate fs.length false) [] ⟨none,0⟩ (w.heap.size+1) fs.length W (by rw[lx];omega) (by simp) (by omega) hk (by rw[List.getElem?_replicate];simp[hk]) (by rw[lx];simp;omega) hI);have HKW:=(show Hid _ from KW);clear hI SW KW hO;go_enter Tryz.func54,Tryz.ntmps54
 go_upto_region 2 with fail
 rw[HW.out];obtain⟨R7,HR7⟩:∃R7,Hid (dy fs fs.length k (List.replicate fs.length false) []=R7):=⟨_,rfl⟩
 rw[HR7.out]at HRD;have HAL:Hid (nr fs k=R7.1):=by show _=_;unfold nr;rw[HR7.out]
 obtain⟨L,sn7⟩:=R7;have HAL:Hid (nr fs k=L):=HAL.out
 go_upto_region 3 with (go_at_call 82;refine Calls.mono HRD.out ?_;rintro e w7 ⟨h7,rfl,o7,s7,r7,l7,n7,u7⟩)
 have n7:L.length+2000*aO sn7<=0+2000*aO (List.replicate fs.length false):=n7;rw[lx]at n7;have o7:aA w7 h7 (f9 L):=o7;have hL:L.length<=100000:=by omega
 have kr:ab [w.heap.size+1] W w7:=r7.kept;have B7:=kr.get BF (by simp)
 have HFR:Hid (∀g,h7.ao=some ⟨g,0,none⟩->g∉[w.heap.size]):=fun g eg hq=>by
  have e2:h7.blk=some g:=by unfold Hd.blk;rw[eg];rfl
  have e3:=ae BF;simp at hq
  rcases r7.blk with e | ⟨q,e,hq2⟩
  ·rw[e2]at e;cases e
  ·rw[e2]at e;cases e;omega
 have HK7:Hid (ab [] w w7):=⟨kr.os.trans HKW.out.os,kr.tape.trans HKW.out.tape,kr.output.trans HKW.out.output,Nat.le_trans HKW.out.size kr.size,fun q hq _=>by rw[kr.block q (Nat.lt_of_lt_of_le hq HKW.out.size) (by simp;omega),HKW.out.block q hq (by simp)]⟩;obtain⟨bk,HBK⟩:∃bk,Hid (dJ L=bk):=⟨_,rfl⟩
 have HBR:=(show Hid _ from rH L h7.ao h7.cap w7 hL o7.src);rw[HBK.out]at HBR;have f0:=ak B7 0;have f1:=ak B7 1;have f2:=ak B7 2;have f3:=ak B7 3;have g0:w7.cell? ⟨w.heap.size,0,none⟩=some (.int .i64 0):=by rw[aa B7];rfl
 have g1:w7.cell? ⟨w.heap.size,1,none⟩=some (.string ⟨#[]⟩):=by rw[aa B7];rfl
 have g2:w7.cell? ⟨w.heap.size,2,none⟩=some (.int .i64 0):=by rw[aa B7];rfl
 have g3:w7.cell? ⟨w.heap.size,3,none⟩=some (.int .i64 0):=by rw[aa B7];rfl
 have y7:=ae B7;have HSL:=(show Hid _ from o7.src);clear HRD BF HW m2 r7 s7 l7 u7 HKW kr
 cases bk
 ·have HE:Hid (da fs k=(L,ic)):=by show _=_;unfold da;rw[HAL.out,HBK.out,if_neg (by simp)]
  go_wp2_with (go_at_call 83;refine Calls.mono HBR.out ?_;rintro e w9 ⟨rfl,hw9⟩;rw[hw9];clear hw9);obtain⟨x0,x1,x2,x3⟩:=pU B7 (.int .i64 0) (.string ⟨#[]⟩) (.int .i64 0) (.int .i64 0);have KF:ab [w.heap.size] w7 ((((w7.setCell ⟨w.heap.size,0,none⟩ (.int .i64 0)).setCell ⟨w.heap.size,1,none⟩ (.string ⟨#[]⟩)).setCell ⟨w.heap.size,2,none⟩ (.int .i64 0)).setCell ⟨w.heap.size,3,none⟩ (.int .i64 0)):=((((ab.refl _ _).setCell (Or.inl (by simp)) _).setCell (Or.inl (by simp)) _).setCell (Or.inl (by simp)) _).setCell (Or.inl (by simp)) _;exact bodyPost_ret (v:=.tuple #[.slice h7.ao L.length h7.cap,.agg #[.int .i64 0,.string ⟨#[]⟩,.int .i64 0,.int .i64 0]]) (by simp[results,Tryz.results54,go_sem,x0,x1,x2,x3]) rfl ⟨h7.ao,h7.cap,by rw[HE.out];rfl,by rw[HE.out];exact jN.keptS HSL.out KF HFR.out,(((HK7.out.setCell (Or.inr (by simp)) _).setCell (Or.inr (by simp)) _).setCell (Or.inr (by simp)) _).setCell (Or.inr (by simp)) _⟩
 ·have hn:0<L.length:=by
   cases hL0:L with
   | nil=>rw[hL0]at HBK;cases HBK.out
   | cons _ _=>simp
  obtain⟨n,HNL⟩:∃n,Hid (L.length=n):=⟨_,rfl⟩
  have hlt:n-1<L.length:=by rw[<-HNL.out];omega
  rw[HNL.out]at hn hL HBR ⊢;obtain⟨gs,eg,hgs,c0,c1,c2,c3,c4⟩:=HSL.out.2 (n-1) L[n-1] (List.getElem?_eq_getElem hlt)
  have HE:Hid (da fs k=(L.dropLast,L[n-1])):=by
   show _=_
   unfold da;rw[HAL.out,HBK.out,if_pos rfl,List.getLast?_eq_getElem?,HNL.out,List.getElem?_eq_getElem hlt];rfl
  have HDL:Hid (L.dropLast.length=n-1):=by show _=_;rw[List.length_dropLast,HNL.out]
  have hcp:n<=h7.cap:=by have:=HSL.out.1;rw[HNL.out]at this;exact this
  generalize L[n-1]=t at *;obtain⟨ts,tr,tf,tl,tc⟩:=t;simp only at c0 c1 c2 c3 c4;have hwr:IntKind.i64.wrap ((n:Int)-1)=(n:Int)-1:=by rw[IntKind.wrap_i64];omega
  have htn:((n:Int)-1).toNat=n-1:=by omega
  have b1:(0:Int)<=(n:Int)-1:=by omega
  have b2:(n:Int)-1<(n:Int):=by omega
  have b3:(1:Int)<=(n:Int):=by omega
  have b4:(n:Int)-1<=(h7.cap:Int):=by omega
  have b5:(0:Int)<(n:Int):=by omega
  rw[eg]at HBR HSL HFR ⊢;obtain⟨W8,HW8⟩:∃W8,Hid (w7.alloc (.cells #[.string ts,.int .i64 tr,.string tf,.int .i64 tl,.int .i64 tc] 138)=W8):=⟨_,rfl⟩
  go_upto_region 7 with (go_at_call 83;refine Calls.mono HBR.out ?_;rintro e w9 ⟨rfl,hw9⟩;rw[hw9];clear hw9)
  rw[HW8.out];have k8:ab [] w7 W8:=by rw[<-HW8.out];exact(ab.refl [] _).alloc _
  have BX:W8.heap[w7.heap.size]?=some (.cells #[.string ts,.int .i64 tr,.string tf,.int .i64 tl,.int .i64 tc] 138 (0,0)):=by rw[<-HW8.out];exact heap_alloc_new _ _
  have B8:=k8.get B7 (by simp);have HS8:=(show Hid _ from jN.drop (jN.still HSL.out k8));have HK8:=(show Hid _ from HK7.out.trans k8);clear c0 c1 c2 c3 c4 f0 f1 f2 f3 g0 g1 g2 g3 HBR HW8 B7 k8 HK7 HSL;have p1:W8.cell? ⟨w7.heap.size,1,none⟩=some (.int .i64 tr):=by rw[aa BX];rfl
  have p2:W8.cell? ⟨w7.heap.size,2,none⟩=some (.string tf):=by rw[aa BX];rfl
  have p3:W8.cell? ⟨w7.heap.size,3,none⟩=some (.int .i64 tl):=by rw[aa BX];rfl
  have p4:W8.cell? ⟨w7.heap.size,4,none⟩=some (.int .i64 tc):=by rw[aa BX];rfl
  have f0:=ak B8 0;have f1:=ak B8 1;have f2:=ak B8 2;have f3:=ak B8 3;have g0:W8.cell? ⟨w.heap.size,0,none⟩=some (.int .i64 0):=by rw[aa B8];rfl
  have g1:W8.cell? ⟨w.heap.size,1,none⟩=some (.string ⟨#[]⟩):=by rw[aa B8];rfl
  have g2:W8.cell? ⟨w.heap.size,2,none⟩=some (.int .i64 0):=by rw[aa B8];rfl
  have g3:W8.cell? ⟨w.heap.size,3,none⟩=some (.int .i64 0):=by rw[aa B8];rfl
  have y8:=ae BX;have y9:=ae B8
  go_region
  go_wp2;obtain⟨x0,x1,x2,x3⟩:=pU B8 (.int .i64 tr) (.string tf) (.int .i64 tl) (.int .i64 tc);have KF:ab [w.heap.size] W8 ((((W8.setCell ⟨w.heap.size,0,none⟩ (.int .i64 tr)).setCell ⟨w.heap.size,1,none⟩ (.string tf)).setCell ⟨w.heap.size,2,none⟩ (.int .i64 tl)).setCell ⟨w.heap.size,3,none⟩ (.int .i64 tc)).drew:=(((((ab.refl _ _).setCell (Or.inl (by simp)) _).setCell (Or.inl (by simp)) _).setCell (Or.inl (by simp)) _).setCell (Or.inl (by simp)) _).drew;exact bodyPost_ret (v:=.tuple #[.slice (some ⟨gs,0,none⟩) (n-1) h7.cap,.agg #[.int .i64 tr,.string tf,.int .i64 tl,.int .i64 tc]]) (by simp[results,Tryz.results54,go_sem,x0,x1,x2,x3]) rfl ⟨some ⟨gs,0,none⟩,h7.cap,by rw[HE.out,HDL.out],by rw[HE.out];exact jN.keptS HS8.out KF HFR.out,((((HK8.out.setCell (Or.inr (by simp)) _).setCell (Or.inr (by simp)) _).setCell (Or.inr (by simp)) _).setCell (Or.inr (by simp)) _).drew⟩
structure Sm where
 a:Nat
 z:Nat
 h:Nat
 k:ByteArray
def xU(w:World)(ao:Option Addr)(cap:Nat)(S:List Sm):Prop:=S.length<=cap/\∀k s,S[k]?=some s->∃g,ao=some ⟨g,0,none⟩/\g<w.heap.size /\
  w.cell? ⟨g,k*4,none⟩=some (.int .i64 s.a)/\w.cell? ⟨g,k*4+1,none⟩=some (.int .i64 s.z)/\w.cell? ⟨g,k*4+2,none⟩=some (.int .i64 s.h)/\w.cell? ⟨g,k*4+3,none⟩=some (.string s.k)
theorem xU.still{w w':World}{ao:Option Addr}{cap:Nat}{S:List Sm}(h:xU w ao cap S)(k:ab [] w w'):xU w' ao cap S:=by
 refine⟨h.1,fun j t ht=>?_⟩;obtain⟨g,e,hg,c0,c1,c2,c3⟩:=h.2 j t ht;have q:∀o,w'.cell? ⟨g,o,none⟩=w.cell? ⟨g,o,none⟩:=fun o=>World.cell?_of_block (k.block g hg (by simp))
 exact⟨g,e,Nat.lt_of_lt_of_le hg k.size,by rw[q];exact c0,by rw[q];exact c1,by rw[q];exact c2,by rw[q];exact c3⟩
structure eW(w:World)(b:Nat)(T:List Tk)(aoT:Option Addr)(cT:Nat)(S:List Sm)(aoS:Option Addr)(cS:Nat):Prop where
 d:w.heap[b]?=some (.cells #[.slice aoT T.length cT,.slice aoS S.length cS] 141 (0,0))
 t:jN w aoT cT T
 s:xU w aoS cS S
theorem eW.still{w w':World}{b:Nat}{T:List Tk}{aoT:Option Addr}{cT:Nat}{S:List Sm}{aoS:Option Addr}{cS:Nat}(h:eW w b T aoT cT S aoS cS)(k:ab [] w w'):eW w' b T aoT cT S aoS cS :=
 ⟨k.get h.d (by simp),h.t.still k,h.s.still k⟩
theorem eW.cells{w:World}{b:Nat}{T:List Tk}{aoT:Option Addr}{cT:Nat}{S:List Sm}{aoS:Option Addr}{cS:Nat}(h:eW w b T aoT cT S aoS cS):w.cell? ⟨b,0,none⟩=some (.slice aoT T.length cT)/\w.cell? ⟨b,1,none⟩=some (.slice aoS S.length cS)/\b<w.heap.size :=
 ⟨by rw[aa h.d];rfl,by rw[aa h.d];rfl,ae h.d⟩
def aE(k:ByteArray):Bool:=(k.toList == [36,97])||(k.toList == [36,112])
def aH(k:ByteArray):Bool:=(k.toList == [36,102])||(k.toList == [36,101])
theorem eZ(s:ByteArray)(w:World) :
  Calls Tryz.prog 122 #[.string s] w fun e w'=>e=.returned (.bool (aE s))/\w'=w:=by
 go_enter Tryz.func122,Tryz.ntmps122;go_wp2
 all_goals go_ret
 all_goals (refine⟨?_,rfl⟩;simp[aE, *])
theorem kg(s:ByteArray)(w:World) :
  Calls Tryz.prog 123 #[.string s] w fun e w'=>e=.returned (.bool (aH s))/\w'=w:=by
 go_enter Tryz.func123,Tryz.ntmps123;go_wp2
 all_goals go_ret
 all_goals (refine⟨?_,rfl⟩;simp[aH, *])
def id(w:World)(ao:Option Addr)(L:List ByteArray):Prop:=∀k x,L[k]?=some x->∃g,ao=some ⟨g,0,none⟩/\g<w.heap.size/\w.cell? ⟨g,k,none⟩=some (.string x)
theorem aA.srcX{w:World}{h:Hd}{L:List ByteArray}(o:aA w h (aD L)):id w h.ao L:=by
 intro k x hk
 rcases o.ways with ⟨_,h0,_⟩ | ⟨g,cur,e1,e2,e3,-⟩
 ·have h0:L.length=0:=h0
  have:=(List.getElem?_eq_some_iff.1 hk).1;omega
 ·exact⟨g,e1,ae e2,o.cell e1 k (.string x) (by simp[aD,dO,hk])⟩
theorem IY(L:List ByteArray)(x:ByteArray)(k:Nat)(hk:k<L.length)(h:(L[k].toList==x.toList)=true):aI L x=true:=by
 unfold aI;exact List.any_eq_true.2 ⟨L[k],List.getElem_mem hk,h⟩
theorem IZ(L:List ByteArray)(x:ByteArray)(h:∀k (hk:k<L.length),(L[k].toList==x.toList)=false):aI L x=false:=by
 unfold aI;rw[List.any_eq_false];intro y hy;obtain⟨k,hk,e⟩:=List.getElem_of_mem hy;have:=h k hk;rw[e]at this;rw[this];simp
theorem i9(L:List ByteArray)(ao:Option Addr)(c:Nat)(x:ByteArray)(w:World)(h1:id w ao L)(hL:L.length<=1000000000) :
  Calls Tryz.prog 93 #[.slice ao L.length c,.string x] w fun e w'=>e=.returned (.bool (aI L x))/\w'=w:=by
 have H1:=(show Hid _ from h1);clear h1;go_enter Tryz.func93,Tryz.ntmps93;go_wp2
 go_loopg [5] L.length (fun g i wr=>∃k:Nat,k<=L.length/\g=L.length-k/\i=.int .i64 k/\Hid (∀j (hj:j<L.length),j<k->(L[j].toList==x.toList)=false)/\wr=w)
 case atStart=>exact⟨0,by omega,by omega,rfl,(fun j _ h=>by omega),rfl⟩
 case round =>
  obtain⟨k,hk,hg,rfl,HN,rfl⟩:=hrel
  by_cases hlt:k<L.length
  ·obtain⟨gs,rfl,hgs,q0⟩:=H1.out k L[k] (List.getElem?_eq_getElem hlt)
   have hki:(k:Int)<(L.length:Int):=by omega
   have HY:Hid ((L[k].toList==x.toList)=true->aI L x=true):=IY L x k hlt
   have HO:Hid ((L[k].toList==x.toList)=false->∀j (hj:j<L.length),j<k+1->(L[j].toList==x.toList)=false):=fun h j hj h2=>by
    by_cases e:j=k
    ·subst e;exact h
    ·exact HN.out j hj (by omega)
   generalize L[k]=y at *
   cases hb:(y.toList==x.toList)
   ·have HM:Hid (∀j (hj:j<L.length),j<k+1->(L[j].toList==x.toList)=false):=HO.out hb
    go_wp2
    go_roundg (L.length-(k+1))
    case measure=>omega
    case rel=>exact⟨k+1,by omega,rfl,by go_num,HM,rfl⟩
   ·have HM:Hid (aI L x=true):=HY.out hb
    go_wp2;go_ret;exact⟨aB HM.out.symm,rfl⟩
  ·have HM:Hid (aI L x=false):=IZ L x (fun j hj=>HN.out j hj (by omega))
   go_wp2;go_ret;exact⟨aB HM.out.symm,rfl⟩
def tS(T:List Tk)(i:Nat):ByteArray:=(T.getD i ic).s
theorem gg(T:List Tk)(i:Nat)(h:i<T.length):T[i]?=some (T.getD i ic):=by
 rw[List.getD_eq_getElem?_getD,List.getElem?_eq_getElem h];rfl
def dY(T:List Tk)(b:Nat):ByteArray×Nat:=if(ge (tS T b) ⟨#[36]⟩||decide (T.length<=b+1))=true then(tS T b,b+1) else(tS T (b+1),b+2)
set_option maxRecDepth 100000 in
theorem CI(b k:Nat)(T:List Tk)(aoT:Option Addr)(cT:Nat)(S:List Sm)(aoS:Option Addr)(cS:Nat)(w:World)(hD:eW w b T aoT cT S aoS cS)(hk:k<T.length)(hT:T.length<=100000)(hs:∀i,(tS T i).size<=1073741824) :
  Calls Tryz.prog 85 #[.pointer (some ⟨b,0,none⟩),.int .i64 k] w fun e w'=>e=.returned (.tuple #[.string (dY T k).1,.int .i64 ((dY T k).2:Nat)])/\w'=w:=by
 obtain⟨c0,-,hb⟩:=hD.cells;obtain⟨gT,rfl,hgT,q0,-⟩:=hD.t.2 k _ (gg T k hk);replace q0:w.cell? ⟨gT,k*5,none⟩=some (.string (tS T k)):=q0;have hki:(k:Int)<(T.length:Int):=by omega
 have hs0:=hs k;have hc1:((k+1:Nat):Int)=(k:Int)+1:=by omega
 have hc2:((k+2:Nat):Int)=(k:Int)+2:=by omega
 obtain⟨x,Hx⟩:∃x,Hid (tS T k=x):=⟨_,rfl⟩
 rw[Hx.out]at q0 hs0;obtain⟨n,Hn⟩:∃n,Hid (T.length=n):=⟨_,rfl⟩
 rw[Hn.out]at c0 hki hT
 cases h1:ge x ⟨#[36]⟩
 ·by_cases h2:n<=k+1
  ·have HE:Hid (dY T k=(x,k+1)):=by show _=_;unfold dY;rw[Hx.out,h1,Hn.out,if_pos (by simp;omega)]
   have h2i:(n:Int)<=(k:Int)+1:=by omega
   go_enter Tryz.func85,Tryz.ntmps85;go_wp2_with (go_at_call 120;refine(eL x _ _ (by omega) (by show 1<=_;omega)).mono ?_;rintro e w1 ⟨rfl,hw1⟩;rw[hw1];clear hw1);go_ret2;exact⟨by rw[HE.out];show _=Ending.returned (.tuple #[.string x,.int .i64 ((k+1:Nat):Int)]);rw[hc1];rfl,rfl⟩
  ·have HE:Hid (dY T k=(tS T (k+1),k+2)):=by show _=_;unfold dY;rw[Hx.out,h1,Hn.out,if_neg (by simp;omega)]
   have h2i:¬(n:Int)<=(k:Int)+1:=by omega
   have h2j:(k:Int)+1<(n:Int):=by omega
   obtain⟨gT2,e2,-,q1,-⟩:=hD.t.2 (k+1) _ (gg T (k+1) (by rw[Hn.out];omega))
   cases e2
   replace q1:w.cell? ⟨gT,(k+1)*5,none⟩=some (.string (tS T (k+1))):=q1;generalize tS T (k+1)=y at *;go_enter Tryz.func85,Tryz.ntmps85;go_wp2_with (go_at_call 120;refine(eL x _ _ (by omega) (by show 1<=_;omega)).mono ?_;rintro e w1 ⟨rfl,hw1⟩;rw[hw1];clear hw1);go_ret2;exact⟨by rw[HE.out];show _=Ending.returned (.tuple #[.string y,.int .i64 ((k+2:Nat):Int)]);rw[hc2];rfl,rfl⟩
 ·have HE:Hid (dY T k=(x,k+1)):=by show _=_;unfold dY;rw[Hx.out,h1,if_pos (by simp)]
  go_enter Tryz.func85,Tryz.ntmps85;go_wp2_with (go_at_call 120;refine(eL x _ _ (by omega) (by show 1<=_;omega)).mono ?_;rintro e w1 ⟨rfl,hw1⟩;rw[hw1];clear hw1);go_ret2;exact⟨by rw[HE.out];show _=Ending.returned (.tuple #[.string x,.int .i64 ((k+1:Nat):Int)]);rw[hc1];rfl,rfl⟩
def ov:Int->List Sm->Bool
 | _,[]=>true
 | o,s :: r=>if aY o s.k<0 then false else ov (aY o s.k) r
def bB(S:List Sm)(j n:Nat):Bool:=ov 0 ((S.drop j).take (n-j))
def bF(S:List Sm)(n:Nat):Int:=(S.take n).foldl (fun o s=>aY o s.k) 0
theorem rL(S:List Sm)(k:Nat)(h:k<S.length):bF S (k+1)=aY (bF S k) S[k].k:=by
 unfold bF;rw[List.take_succ_eq_append_getElem h,List.foldl_append];rfl
theorem zS{s:ByteArray}(h1:(s.toList == [36,123])=true)(h2:(s.toList == [36,125])=true):False:=by
 have a1:s.toList=[36,123]:=by simpa using h1
 rw[a1]at h2;exact absurd h2 (by decide)
set_option maxRecDepth 100000 in
theorem Au(b n:Nat)(T:List Tk)(aoT:Option Addr)(cT:Nat)(S:List Sm)(aoS:Option Addr)(cS:Nat)(w:World)(hD:eW w b T aoT cT S aoS cS)(hn:n<=S.length)(hS:S.length<=100000) :
  Calls Tryz.prog 168 #[.pointer (some ⟨b,0,none⟩),.int .i64 n] w fun e w'=>e=.returned (.int .i64 (bF S n))/\w'=w:=by
 obtain⟨-,c1,hb⟩:=hD.cells;have HD:=(show Hid _ from hD.s.2);clear hD;go_enter Tryz.func168,Tryz.ntmps168;go_wp2
 go_loopg [5,6] n (fun g o i wr=>∃(k:Nat) (m:Int),k<=n/\g=n-k/\o=.int .i64 m/\i=.int .i64 k/\(-(k:Int)<=m/\m<=(k:Int))/\Hid (m=bF S k)/\wr=w)
 case atStart=>exact⟨0,0,by omega,rfl,rfl,rfl,by omega,rfl,rfl⟩
 case round =>
  obtain⟨k,m,hk,hg,rfl,rfl,hm,HM,rfl⟩:=hrel
  by_cases hlt:k<n
  ·have hks:k<S.length:=by omega
   obtain⟨gs,rfl,hgs,-,-,-,q3⟩:=HD.out k S[k] (List.getElem?_eq_getElem hks);have HN:=(show Hid _ from rL S k hks);have hki:(k:Int)<(n:Int):=by omega
   have hki2:(k:Int)<(S.length:Int):=by omega
   rw[<-HM.out]at HN;generalize S[k]=t at *;obtain⟨sa,sz,sh,sk⟩:=t;simp only at q3 HN
   cases h1:(sk.toList == [36,123])
   ·cases h2:(sk.toList == [36,125])
    ·have HE:Hid (m=bF S (k+1)):=by show _=_;rw[HN.out,aY,h1,h2];simp
     go_wp2
     go_roundg (n-(k+1))
     case measure=>omega
     case rel=>exact⟨k+1,m,by omega,rfl,rfl,by go_num,by omega,HE,rfl⟩
    ·have HE:Hid (m-1=bF S (k+1)):=by show _=_;rw[HN.out,aY,h1,h2];simp
     go_wp2
     go_roundg (n-(k+1))
     case measure=>omega
     case rel=>exact⟨k+1,m-1,by omega,rfl,by go_num,by go_num,by omega,HE,rfl⟩
   ·cases h2:(sk.toList == [36,125])
    ·have HE:Hid (m+1=bF S (k+1)):=by show _=_;rw[HN.out,aY,h1,h2];simp
     go_wp2
     go_roundg (n-(k+1))
     case measure=>omega
     case rel=>exact⟨k+1,m+1,by omega,rfl,by go_num,by go_num,by omega,HE,rfl⟩
    ·exact(zS h1 h2).elim
  ·have e:k=n:=by omega
   subst e;go_wp2;go_ret;exact⟨am HM.out,rfl⟩
theorem FE(S:List Sm)(k n:Nat)(h:k<n)(hn:n<=S.length):(S.drop k).take (n-k)=S[k]'(by omega) :: (S.drop (k+1)).take (n-(k+1)):=by
 rw[List.drop_eq_getElem_cons (by omega),show n-k=(n-(k+1))+1 by omega,List.take_succ_cons]
set_option maxRecDepth 100000 in
theorem jP(b j n:Nat)(T:List Tk)(aoT:Option Addr)(cT:Nat)(S:List Sm)(aoS:Option Addr)(cS:Nat)(w:World)(hD:eW w b T aoT cT S aoS cS)(hj:j<=n)(hn:n<=S.length)(hS:S.length<=100000) :
  Calls Tryz.prog 92 #[.pointer (some ⟨b,0,none⟩),.int .i64 j,.int .i64 n] w fun e w'=>e=.returned (.bool (bB S j n))/\w'=w:=by
 obtain⟨-,c1,hb⟩:=hD.cells;have HD:=(show Hid _ from hD.s.2);clear hD;go_enter Tryz.func92,Tryz.ntmps92;go_wp2
 go_loopg [7,8] (n-j) (fun g o i wr=>∃(k:Nat) (m:Int),(j<=k/\k<=n)/\g=n-k/\o=.int .i64 m/\i=.int .i64 k/\(0<=m/\m<=(k:Int))/\Hid (bB S j n=ov m ((S.drop k).take (n-k)))/\wr=w)
 case atStart=>exact⟨j,0,⟨by omega,by omega⟩,rfl,rfl,rfl,by omega,rfl,rfl⟩
 case round =>
  obtain⟨k,m,⟨hjk,hk⟩,hg,rfl,rfl,hm,HM,rfl⟩:=hrel
  by_cases hlt:k<n
  ·have hks:k<S.length:=by omega
   obtain⟨gs,rfl,hgs,-,-,-,q3⟩:=HD.out k S[k] (List.getElem?_eq_getElem hks);have HA:=(show Hid _ from FE S k n hlt hn);rw[HA.out,ov]at HM;have hki:(k:Int)<(n:Int):=by omega
   have hki2:(k:Int)<(S.length:Int):=by omega
   generalize S[k]=t at *;obtain⟨sa,sz,sh,sk⟩:=t;simp only at q3 HM
   cases h1:(sk.toList == [36,123])
   ·cases h2:(sk.toList == [36,125])
    ·have HE:Hid (bB S j n=ov m ((S.drop (k+1)).take (n-(k+1)))):=by
      have hd:aY m sk=m:=by unfold aY;rw[h1,h2];simp
      have:=HM.out;rw[hd,if_neg (by omega)]at this;exact this
     have hm0:¬m<0:=by omega
     go_wp2
     go_roundg (n-(k+1))
     case measure=>omega
     case rel=>exact⟨k+1,m,⟨by omega,by omega⟩,rfl,rfl,by go_num,by omega,HE,rfl⟩
    ·have hd:aY m sk=m-1:=by unfold aY;rw[h1,h2];simp
     rw[hd]at HM
     by_cases hz:m-1<0
     ·have HE:Hid (bB S j n=false):=by
       have:=HM.out;rw[if_pos hz]at this;exact this
      go_wp2;go_ret;exact⟨aB HE.out.symm,rfl⟩
     ·have HE:Hid (bB S j n=ov (m-1) ((S.drop (k+1)).take (n-(k+1)))):=by
       have:=HM.out;rw[if_neg hz]at this;exact this
      go_wp2
      go_roundg (n-(k+1))
      case measure=>omega
      case rel=>exact⟨k+1,m-1,⟨by omega,by omega⟩,rfl,by go_num,by go_num,by omega,HE,rfl⟩
   ·cases h2:(sk.toList == [36,125])
    ·have HE:Hid (bB S j n=ov (m+1) ((S.drop (k+1)).take (n-(k+1)))):=by
      have hd:aY m sk=m+1:=by unfold aY;rw[h1,h2];simp
      have:=HM.out;rw[hd,if_neg (by omega)]at this;exact this
     have hm0:¬m+1<0:=by omega
     go_wp2
     go_roundg (n-(k+1))
     case measure=>omega
     case rel=>exact⟨k+1,m+1,⟨by omega,by omega⟩,rfl,by go_num,by go_num,by omega,HE,rfl⟩
    ·exact(zS h1 h2).elim
  ·have e:k=n:=by omega
   subst e;have HE:Hid (bB S j k=true):=by show _=_;rw[HM.out,Nat.sub_self,List.take_zero,ov]
   go_wp2;go_ret;exact⟨aB HE.out.symm,rfl⟩
def lL(s:ByteArray):Bool:=(s.toList == [36,61])||(s.toList == [36,46])
def kZ:List Tk->List ByteArray
 | []=>[]
 | t :: r=>if lL t.s=true then [] else t.s :: kZ r
def bV(T:List Tk)(h:Nat):List ByteArray:=kZ (T.drop h)
def eD(T:List Tk)(h:Nat):Prop:=∃e,h<=e/\e<T.length/\lL (tS T e)=true
theorem Cz(T:List Tk)(i:Nat)(h:i<T.length):T.drop i=T.getD i ic :: T.drop (i+1):=by
 rw[List.drop_eq_getElem_cons h,List.getD_eq_getElem?_getD,List.getElem?_eq_getElem h];rfl
theorem Do(L:List Tk):(kZ L).length<=L.length:=by
 induction L with
 | nil=>exact Nat.le_refl _
 | cons t r ih=>rw[kZ];split <;> simp <;> omega
theorem jR(T:List Tk)(h:Nat):(bV T h).length<=T.length:=by
 have:=Do (T.drop h);rw[List.length_drop]at this;unfold bV;omega
structure sS(w wr:World)(h:Hd)(O:List ByteArray):Prop where
 own:aA wr h (aD O)
 far:∀k,h.blk=some k->w.heap.size<=k
 kept:ab [] w wr
theorem sS.nil(w:World):sS w w ⟨none,0⟩ []:=⟨World.ownsRow_nil _ _ _ _,(by intro k hk;cases hk),ab.refl _ _⟩
theorem sS.still{w wr wr':World}{h:Hd}{O:List ByteArray}(a:sS w wr h O)(k:ab [] wr wr'):sS w wr' h O:=⟨a.own.still k,a.far,a.kept.trans k⟩
theorem sS.grew{w wr wr':World}{h h':Hd}{O O':List ByteArray}(a:sS w wr h O)(g:bh wr wr' h h')(o:aA wr' h' (aD O')):sS w wr' h' O':=by
 refine⟨o,fun k hk=>?_,⟨g.kept.os.trans a.kept.os,g.kept.tape.trans a.kept.tape,g.kept.output.trans a.kept.output,Nat.le_trans a.kept.size g.kept.size,fun k hk _=>?_⟩⟩
 ·rcases g.blk with e | ⟨q,e,hq⟩
  ·exact a.far k (by rw[<-e];exact hk)
  ·rw[e]at hk;cases hk
   exact Nat.le_trans a.kept.size hq
 ·rw[g.kept.block k (Nat.lt_of_lt_of_le hk a.kept.size) (fun hq=>by have:=a.far _ (aK hq);omega),a.kept.block k hk (by simp)]
theorem nk(w:World){ops:Array Oper}{rest:List Oper}{o:Oper}{a:Act}{Q:Exit->Act->World->Prop}
  (hg:o.guard=none) (s x:Operand) (hop:o.op=Op.call { callee:=Callee.builtin Builtin.append,args:=#[s,x],argTypes:=#[61,61] })
  (h:Hd) (L:List ByteArray) (t:ByteArray) (hs:a.eval s=.slice h.ao L.length h.cap) (hown:aA w h (aD L)) (hL:L.length<=1000000) (hx:a.eval x=.slice (some ⟨w.heap.size,0,none⟩) 1 1)
  (hK:∀h' w',aA w' h' (aD (L++[t]))->bh w w' h h'->wpList Tryz.prog ops Q rest (a.put o.dst (.slice h'.ao (L.length+1) h'.cap)) w') :
  wpList Tryz.prog ops Q (o :: rest) a (w.alloc (.cells #[.string t] 9)):=by
 obtain⟨i0,hi,hz0,hz1,hz2⟩:=info_parts jI;have k1:ab [] w (w.alloc (.cells #[.string t] 9)):=(ab.refl [] _).alloc _;have hk:(w.alloc (.cells #[.string t] 9)).heap[w.heap.size]?=some (.cells #[.string t] 9 (0,0)):=heap_alloc_new _ _;refine aM _ hg s x 61 hop i0 (.string ⟨#[]⟩) 16 h (aD L) Tryz.underlying61 hi hz0 hz1 hz2 rfl Nat.one_pos hs (hown.still k1) ⟨w.heap.size,0,none⟩ 1 1 [.string t] hx rfl ?_ ?_ Nat.one_pos (by simp only[aD];unfold maxLen;omega) (by simp only[aD];omega) ?_
 ·intro j u hj
  rw[bK,aa hk];simpa using hj
 ·intro u hu
  rw[List.mem_singleton.1 hu];rfl
 ·intro g5 cap5 w5 hw5 hgr5 hf5
  rw[dV]at hw5;exact hK ⟨some ⟨g5,0,none⟩,cap5⟩ w5 hw5 ((bh.still k1).trans (bh.made hgr5 hf5))
set_option maxRecDepth 100000 in
theorem ki(b j:Nat)(T:List Tk)(aoT:Option Addr)(cT:Nat)(S:List Sm)(aoS:Option Addr)(cS:Nat)(w:World)(hD:eW w b T aoT cT S aoS cS)(hj:j<S.length)(hT:T.length<=100000)(hE:eD T S[j].h) :
  Calls Tryz.prog 72 #[.pointer (some ⟨b,0,none⟩),.int .i64 j] w fun e w'=>∃h',e=.returned (.slice h'.ao (bV T S[j].h).length h'.cap)/\sS w w' h' (bV T S[j].h):=by
 obtain⟨gS,rfl,hgS,-,-,q2,-⟩:=hD.s.2 j S[j] (List.getElem?_eq_getElem hj);generalize S[j].h=sh at *;obtain⟨e,e1,e2,e3⟩:=hE;obtain⟨gT,rfl,hgT,-⟩:=hD.t.2 e _ (gg T e e2);have HD:=(show Hid _ from hD);obtain⟨c0,c1,hb⟩:=hD.cells;have hji:(j:Int)<(S.length:Int):=by omega
 have HX:=(show Hid _ from sS.nil w);clear hD;go_enter Tryz.func72,Tryz.ntmps72;go_wp2;clear c0 c1 q2
 go_loopg [5,6] (T.length-sh) (fun g o i wr=>∃(k:Nat) (h':Hd) (O:List ByteArray),(sh<=k/\k<=e)/\g=T.length-k/\o=.slice h'.ao O.length h'.cap/\i=.int .i64 k/\O.length<=k/\Hid (O++kZ (T.drop k)=bV T sh)/\Hid (sS w wr h' O))
 case atStart=>exact⟨sh,⟨none,0⟩,[],⟨by omega,by omega⟩,rfl,rfl,rfl,Nat.zero_le _,rfl,HX⟩
 case round =>
  obtain⟨k,h',O,⟨hk1,hk2⟩,hg,rfl,rfl,hO,HE,HW⟩:=hrel;have hks:k<T.length:=by omega
  have HDr:=(show Hid _ from eW.still HD.out HW.out.kept);obtain⟨c0,-,hbr⟩:=HDr.out.cells;obtain⟨gT2,e5,hgr,q0,-⟩:=HDr.out.t.2 k _ (gg T k hks)
  cases e5
  replace q0:wr.cell? ⟨gT,k*5,none⟩=some (.string (tS T k)):=q0;have hki:(k:Int)<(T.length:Int):=by omega
  have HN:=(show Hid _ from Cz T k hks);rw[HN.out,kZ]at HE;have HE:Hid (O++(if lL (tS T k)=true then [] else tS T k :: kZ (T.drop (k+1)))=bV T sh):=HE.out;have HKE:Hid (k=e->lL (tS T k)=true):=fun h=>by rw[h];exact e3
  obtain⟨x,Hx⟩:∃x,Hid (tS T k=x):=⟨_,rfl⟩
  rw[Hx.out]at q0 HE HKE;have hOw:=HW.out.own;obtain⟨n,Hn⟩:∃n,Hid (T.length=n):=⟨_,rfl⟩
  cases h1:(x.toList == [36,61])
  ·cases h2:(x.toList == [36,46])
   ·have hke:k<e:=by
     have:¬k=e:=fun h=>by have:=HKE.out h;unfold lL at this;rw[h1,h2]at this;cases this
     omega
    have HM:Hid ((O++[x])++kZ (T.drop (k+1))=bV T sh):=by
     have:=HE.out;rw[if_neg (by unfold lL;rw[h1,h2];simp)]at this
     show _=_
     rw[<-this];simp
    go_wp2_with (at_builtin;refine nk _ rfl (.tmp 37) (.tmp 46) rfl h' O x rfl hOw (by omega) rfl ?_;intro h5 w5 hw5 hg5;have HM2:=(show Hid _ from HW.out.grew hg5 hw5);clear hw5 hg5)
    go_roundg (T.length-(k+1))
    case measure=>omega
    case rel=>exact⟨k+1,h5,O++[x],⟨by omega,by omega⟩,rfl,by simp,by go_num,by simp;omega,HM,HM2⟩
   ·have HM:Hid (bV T sh=O):=by
     have:=HE.out;rw[if_pos (by unfold lL;rw[h2];simp)]at this
     show _=_
     rw[<-this];simp
    go_wp2;go_ret;exact⟨h',by rw[HM.out];rfl,by rw[HM.out];exact HW.out⟩
  ·have HM:Hid (bV T sh=O):=by
    have:=HE.out;rw[if_pos (by unfold lL;rw[h1];simp)]at this
    show _=_
    rw[<-this];simp
   go_wp2;go_ret;exact⟨h',by rw[HM.out];rfl,by rw[HM.out];exact HW.out⟩
def cd(T:List Tk)(s:Sm):ByteArray:=if(aE s.k||aH s.k)=true then tS T s.a else⟨#[]⟩
set_option maxRecDepth 100000 in
theorem oc(b j:Nat)(T:List Tk)(aoT:Option Addr)(cT:Nat)(S:List Sm)(aoS:Option Addr)(cS:Nat)(w:World)(hD:eW w b T aoT cT S aoS cS)(hj:j<S.length)(ha:S[j].a<T.length) :
  Calls Tryz.prog 87 #[.pointer (some ⟨b,0,none⟩),.int .i64 j] w fun e w'=>e=.returned (.string (cd T S[j]))/\ab [] w w':=by
 obtain⟨gS,rfl,hgS,q0,-,-,q3⟩:=hD.s.2 j S[j] (List.getElem?_eq_getElem hj);obtain⟨gT,rfl,hgT,t0,-⟩:=hD.t.2 S[j].a _ (gg T _ ha);have HL:Hid (cd T S[j]=if(aE S[j].k||aH S[j].k)=true then tS T S[j].a else⟨#[]⟩):=rfl;replace t0:w.cell? ⟨gT,S[j].a*5,none⟩=some (.string (tS T S[j].a)):=t0;generalize cd T S[j]=R at *;generalize S[j]=s at *;obtain⟨sa,sz,sh,sk⟩:=s;simp only at q0 q3 t0 HL ha;obtain⟨x,Hx⟩:∃x,Hid (tS T sa=x):=⟨_,rfl⟩
 rw[Hx.out]at t0 HL;obtain⟨c0,c1,hb⟩:=hD.cells;have hji:(j:Int)<(S.length:Int):=by omega
 have hai:(sa:Int)<(T.length:Int):=by omega
 have hai0:(0:Int)<=(sa:Int):=by omega
 clear hD
 cases h1:aE sk
 ·cases h2:aH sk
  ·have HE:Hid (R=⟨#[]⟩):=by show _=_;rw[HL.out,h1,h2];rfl
   go_enter Tryz.func87,Tryz.ntmps87;go_wp2_with (first | (go_at_call 122;refine(eZ sk _).mono ?_;rintro e w1 ⟨rfl,hw1⟩;rw[hw1];clear hw1) | (go_at_call 123;refine(kg sk _).mono ?_;rintro e w1 ⟨rfl,hw1⟩;rw[hw1];clear hw1));go_ret;exact⟨by rw[HE.out];rfl,ab.refl _ _⟩
  ·have HE:Hid (R=x):=by show _=_;rw[HL.out,h1,h2];rfl
   go_enter Tryz.func87,Tryz.ntmps87
   go_upto_region 4 with (first | (go_at_call 122;refine(eZ sk _).mono ?_;rintro e w1 ⟨rfl,hw1⟩;rw[hw1];clear hw1) | (go_at_call 123;refine(kg sk _).mono ?_;rintro e w1 ⟨rfl,hw1⟩;rw[hw1];clear hw1))
   go_region
   all_goals
    go_wp2;go_ret;exact⟨by rw[HE.out];rfl,(ab.refl [] w).drew⟩
 ·have HE:Hid (R=x):=by show _=_;rw[HL.out,h1];rfl
  go_enter Tryz.func87,Tryz.ntmps87
  go_upto_region 4 with (first | (go_at_call 122;refine(eZ sk _).mono ?_;rintro e w1 ⟨rfl,hw1⟩;rw[hw1];clear hw1) | (go_at_call 123;refine(kg sk _).mono ?_;rintro e w1 ⟨rfl,hw1⟩;rw[hw1];clear hw1))
  go_region
  all_goals
   go_wp2;go_ret;exact⟨by rw[HE.out];rfl,(ab.refl [] w).drew⟩
def LR:Sm:=⟨0,0,0,⟨#[]⟩⟩
def au(S:List Sm)(j:Nat):Sm:=S.getD j LR
theorem bC(S:List Sm)(j:Nat)(h:j<S.length):S[j]'h=au S j:=by
 unfold au;rw[List.getD_eq_getElem?_getD,List.getElem?_eq_getElem h];rfl
def nC(T:List Tk)(S:List Sm)(key x:ByteArray)(n:Nat)(act:Bool)(j:Nat):Bool:=((au S j).k.toList==key.toList)&&(aI (bV T (au S j).h) x&&(bB S j n || !act))
def im(T:List Tk)(S:List Sm)(key x:ByteArray)(n:Nat)(act:Bool):Bool:=(List.range n).any (nC T S key x n act)
theorem dC{p:Nat->Bool}{k:Nat}(h:∀j,j<k->p j=false)(hk:p k=false):∀j,j<k+1->p j=false:=fun j hj=>by
 by_cases e:j=k
 ·rw[e];exact hk
 ·exact h j (by omega)
set_option maxRecDepth 100000 in
theorem mz(b n:Nat)(key x:ByteArray)(act:Bool)(T:List Tk)(aoT:Option Addr)(cT:Nat)(S:List Sm)(aoS:Option Addr)(cS:Nat)(w:World)(hD:eW w b T aoT cT S aoS cS)(hn:n<=S.length)(hS:S.length<=100000)(hT:T.length<=100000)(hE:∀j,j<n->((au S j).k.toList==key.toList)=true->eD T (au S j).h) :
  Calls Tryz.prog 212 #[.pointer (some ⟨b,0,none⟩),.string key,.string x,.int .i64 n,.bool act] w fun e w'=>e=.returned (.bool (im T S key x n act))/\ab [] w w':=by
 have HD:=(show Hid _ from hD);clear hD;go_enter Tryz.func212,Tryz.ntmps212;go_wp2
 go_loopg [11] n (fun g i wr=>∃k:Nat,k<=n/\g=n-k/\i=.int .i64 k/\Hid (∀j,j<k->nC T S key x n act j=false)/\Hid (ab [] w wr))
 case atStart=>exact⟨0,by omega,rfl,rfl,(fun j hj=>by omega),ab.refl _ _⟩
 case round =>
  obtain⟨k,hk,hg,rfl,HN,HK⟩:=hrel
  by_cases hlt:k<n
  ·have hks:k<S.length:=by omega
   have HDr:=(show Hid _ from eW.still HD.out HK.out);obtain⟨-,c1,hb⟩:=HDr.out.cells;obtain⟨gs,rfl,hgs,-,-,-,q3⟩:=HDr.out.s.2 k S[k] (List.getElem?_eq_getElem hks);have hki:(k:Int)<(n:Int):=by omega
   have hki2:(k:Int)<(S.length:Int):=by omega
   have HP:Hid (nC T S key x n act k=((S[k].k.toList==key.toList)&&(aI (bV T S[k].h) x&&(bB S k n || !act)))):=by show _=_;unfold nC;rw[bC S k hks]
   have HEk:Hid ((S[k].k.toList==key.toList)=true->eD T S[k].h):=by have:=hE k hlt;rw[<-bC S k hks]at this;exact this
   have HBD:Hid ((S[k].k.toList==key.toList)=true->∀wx,ab [] w wx->Calls Tryz.prog 72 #[.pointer (some ⟨b,0,none⟩),.int .i64 k] wx fun e w'=>∃h',e=.returned (.slice h'.ao (bV T S[k].h).length h'.cap)/\sS wx w' h' (bV T S[k].h)):=fun h wx kx=>ki b k T aoT cT S _ cS wx (eW.still HD.out kx) hks hT (HEk.out h)
   have HBL:=jR T S[k].h;have HAC:Hid (∀wx,ab [] w wx->Calls Tryz.prog 92 #[.pointer (some ⟨b,0,none⟩),.int .i64 k,.int .i64 n] wx fun e w'=>e=.returned (.bool (bB S k n))/\w'=wx):=fun wx kx=>jP b k n T aoT cT S _ cS wx (eW.still HD.out kx) (by omega) hn hS
   clear HEk;generalize bV T S[k].h=B at *;generalize S[k].k=sk at *;obtain⟨ac,Hac⟩:∃ac,Hid (bB S k n=ac):=⟨_,rfl⟩
   rw[Hac.out]at HP HAC
   cases h1:(sk.toList==key.toList)
   ·have HM:=(show Hid _ from dC HN.out (by rw[HP.out,h1];rfl))
    go_wp2
    go_roundg (n-(k+1))
    case measure=>omega
    case rel=>exact⟨k+1,by omega,rfl,by go_num,HM,HK⟩
   ·have HB2:=(show Hid _ from HBD.out h1)
    go_upto_region 6 with (go_at_call 72;refine(HB2.out _ (by exact HK.out)).mono ?_;rintro e w2 ⟨h2,rfl,x2⟩)
    have HX2:=(show Hid _ from x2);have HK2:=(show Hid _ from HK.out.trans x2.kept);have HAM:=(show Hid _ from i9 B h2.ao h2.cap x w2 x2.own.srcX (by omega));clear x2 c1 q3;obtain⟨hs,Hhs⟩:∃hs,Hid (aI B x=hs):=⟨_,rfl⟩
    rw[Hhs.out]at HAM HP
    cases hs
    ·have HM:=(show Hid _ from dC HN.out (by rw[HP.out,h1];rfl))
     go_wp2_with (go_at_call 93;refine Calls.mono HAM.out ?_;rintro e w9 ⟨rfl,hw9⟩;rw[hw9];clear hw9)
     go_roundg (n-(k+1))
     case measure=>omega
     case rel=>exact⟨k+1,by omega,rfl,by go_num,HM,HK2⟩
    ·have HA2:=(show Hid _ from HAC.out w2 HK2.out)
     cases ac
     ·cases act
      ·have HM:Hid (im T S key x n false=true):=lD k hlt (by rw[HP.out,h1];rfl)
       go_wp2_with (first | (go_at_call 93;refine Calls.mono HAM.out ?_;rintro e w9 ⟨rfl,hw9⟩;rw[hw9];clear hw9) | (go_at_call 92;refine Calls.mono HA2.out ?_;rintro e w9 ⟨rfl,hw9⟩;rw[hw9];clear hw9));go_ret;exact⟨aB HM.out.symm,HK2.out⟩
      ·have HM:=(show Hid _ from dC HN.out (by rw[HP.out,h1];rfl))
       go_wp2_with (first | (go_at_call 93;refine Calls.mono HAM.out ?_;rintro e w9 ⟨rfl,hw9⟩;rw[hw9];clear hw9) | (go_at_call 92;refine Calls.mono HA2.out ?_;rintro e w9 ⟨rfl,hw9⟩;rw[hw9];clear hw9))
       go_roundg (n-(k+1))
       case measure=>omega
       case rel=>exact⟨k+1,by omega,rfl,by go_num,HM,HK2⟩
     ·have HM:Hid (im T S key x n act=true):=lD k hlt (by rw[HP.out,h1];simp)
      go_wp2_with (first | (go_at_call 93;refine Calls.mono HAM.out ?_;rintro e w9 ⟨rfl,hw9⟩;rw[hw9];clear hw9) | (go_at_call 92;refine Calls.mono HA2.out ?_;rintro e w9 ⟨rfl,hw9⟩;rw[hw9];clear hw9));go_ret;exact⟨aB HM.out.symm,HK2.out⟩
  ·have HM:Hid (im T S key x n act=false):=sV (fun j hj=>HN.out j (by omega))
   go_wp2;go_ret;exact⟨aB HM.out.symm,HK.out⟩
def sx(T:List Tk)(S:List Sm)(n:Nat)(key:List UInt8):Prop:=∀j,j<n->((au S j).k.toList==key)=true->eD T (au S j).h
theorem l5:(⟨#[36,99]⟩:ByteArray).toList=[36,99]/\(⟨#[36,118]⟩:ByteArray).toList=[36,118]:=by decide +kernel
def dM(T:List Tk)(S:List Sm)(x:ByteArray)(n:Nat):Bool:=im T S ⟨#[36,99]⟩ x n false
def jG(T:List Tk)(S:List Sm)(x:ByteArray)(n:Nat):Bool:=im T S ⟨#[36,118]⟩ x n true
theorem qI(b n:Nat)(x:ByteArray)(T:List Tk)(aoT:Option Addr)(cT:Nat)(S:List Sm)(aoS:Option Addr)(cS:Nat)(w:World)(hD:eW w b T aoT cT S aoS cS)(hn:n<=S.length)(hS:S.length<=100000)(hT:T.length<=100000)(hE:sx T S n [36,99]) :
  Calls Tryz.prog 172 #[.pointer (some ⟨b,0,none⟩),.string x,.int .i64 n] w fun e w'=>e=.returned (.bool (dM T S x n))/\ab [] w w':=by
 have H:=(show Hid _ from mz b n ⟨#[36,99]⟩ x false T aoT cT S aoS cS w hD hn hS hT (by rw[l5.1];exact hE));go_enter Tryz.func172,Tryz.ntmps172;go_wp2_with fail;refine Calls.mono H.out ?_;rintro e w1 ⟨rfl,k1⟩;go_wp2;go_ret;exact⟨rfl,k1⟩
theorem xK(b n:Nat)(x:ByteArray)(T:List Tk)(aoT:Option Addr)(cT:Nat)(S:List Sm)(aoS:Option Addr)(cS:Nat)(w:World)(hD:eW w b T aoT cT S aoS cS)(hn:n<=S.length)(hS:S.length<=100000)(hT:T.length<=100000)(hE:sx T S n [36,118]) :
  Calls Tryz.prog 173 #[.pointer (some ⟨b,0,none⟩),.string x,.int .i64 n] w fun e w'=>e=.returned (.bool (jG T S x n))/\ab [] w w':=by
 have H:=(show Hid _ from mz b n ⟨#[36,118]⟩ x true T aoT cT S aoS cS w hD hn hS hT (by rw[l5.2];exact hE));go_enter Tryz.func173,Tryz.ntmps173;go_wp2_with fail;refine Calls.mono H.out ?_;rintro e w1 ⟨rfl,k1⟩;go_wp2;go_ret;exact⟨rfl,k1⟩
def oE(T:List Tk)(S:List Sm)(x:ByteArray)(j:Nat):Bool:=!((cd T (au S j)).toList == [])&&((cd T (au S j)).toList==x.toList)
def bn(T:List Tk)(S:List Sm)(x:ByteArray)(n:Nat):Int:=match (List.range n).find? (oE T S x) with
 | some j=>j
 | none=>-1
theorem xk{T:List Tk}{S:List Sm}{x:ByteArray}{n k:Nat}(hk:k<n)(h:oE T S x k=true)(ha:∀j,j<k->oE T S x j=false):bn T S x n=k:=by
 have e:(List.range n).find? (oE T S x)=some k:=by
  rw[List.find?_range_eq_some];exact⟨h,List.mem_range.2 hk,fun j hj=>by rw[ha j hj];rfl⟩
 unfold bn;rw[e]
theorem yV{T:List Tk}{S:List Sm}{x:ByteArray}{n:Nat}(ha:∀j,j<n->oE T S x j=false):bn T S x n=-1:=by
 have e:(List.range n).find? (oE T S x)=none:=by
  rw[List.find?_eq_none];intro j hj;rw[ha j (List.mem_range.1 hj)];simp
 unfold bn;rw[e]
set_option maxRecDepth 100000 in
theorem mG(b n:Nat)(x:ByteArray)(T:List Tk)(aoT:Option Addr)(cT:Nat)(S:List Sm)(aoS:Option Addr)(cS:Nat)(w:World)(hD:eW w b T aoT cT S aoS cS)(hn:n<=S.length)(hS:S.length<=100000)(ha:∀j,j<n->(au S j).a<T.length) :
  Calls Tryz.prog 171 #[.pointer (some ⟨b,0,none⟩),.string x,.int .i64 n] w fun e w'=>e=.returned (.int .i64 (bn T S x n))/\ab [] w w':=by
 have HD:=(show Hid _ from hD);clear hD;go_enter Tryz.func171,Tryz.ntmps171;go_wp2
 go_loopg [7] n (fun g i wr=>∃k:Nat,k<=n/\g=n-k/\i=.int .i64 k/\Hid (∀j,j<k->oE T S x j=false)/\Hid (ab [] w wr))
 case atStart=>exact⟨0,by omega,rfl,rfl,(fun j hj=>by omega),ab.refl _ _⟩
 case round =>
  obtain⟨k,hk,hg,rfl,HN,HK⟩:=hrel
  by_cases hlt:k<n
  ·have hks:k<S.length:=by omega
   have hki:(k:Int)<(n:Int):=by omega
   have HP:Hid (oE T S x k=(!((cd T S[k]).toList == [])&&((cd T S[k]).toList==x.toList))):=by show _=_;unfold oE;rw[bC S k hks]
   have HLB:=(show Hid _ from oc b k T aoT cT S aoS cS wr (eW.still HD.out HK.out) hks (by rw[bC S k hks];exact ha k hlt));generalize cd T S[k]=l at *
   cases h1:(l.toList == [])
   ·cases h2:(l.toList==x.toList)
    ·have HM:=(show Hid _ from dC HN.out (by rw[HP.out,h2];simp))
     go_wp2_with (go_at_call 87;refine Calls.mono HLB.out ?_;rintro e w9 ⟨rfl,k9⟩;have HK9:=(show Hid _ from HK.out.trans k9))
     go_roundg (n-(k+1))
     case measure=>omega
     case rel=>exact⟨k+1,by omega,rfl,by go_num,HM,HK9⟩
    ·have HM:Hid (bn T S x n=k):=xk hlt (by rw[HP.out,h1,h2];rfl) HN.out
     go_wp2_with (go_at_call 87;refine Calls.mono HLB.out ?_;rintro e w9 ⟨rfl,k9⟩;have HK9:=(show Hid _ from HK.out.trans k9));go_ret;exact⟨am HM.out.symm,HK9.out⟩
   ·have HM:=(show Hid _ from dC HN.out (by rw[HP.out,h1];rfl))
    go_wp2_with (go_at_call 87;refine Calls.mono HLB.out ?_;rintro e w9 ⟨rfl,k9⟩;have HK9:=(show Hid _ from HK.out.trans k9))
    go_roundg (n-(k+1))
    case measure=>omega
    case rel=>exact⟨k+1,by omega,rfl,by go_num,HM,HK9⟩
  ·have HM:Hid (bn T S x n=-1):=yV (fun j hj=>HN.out j (by omega))
   go_wp2;go_ret;exact⟨am HM.out.symm,HK.out⟩
end Go.Proofs.YtpddjjabfbfifaaGreat
